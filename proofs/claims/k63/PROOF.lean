import PyProof.Rows.All
import Wide.All
import OpenK.AllK
import Wide.FinOn
import KE.GoesEnum
import HandS.ForMost
import HandS.IsInst
import HandS.Flow
import HandS.Walk
import HandS.Zip
import HandS.Style
import HandS.Defaults
import HandS.Evl
import KE.DataEq
import KE.KEqDict
import HandS.ForExc
import HandS.ExcInit
import HandS.ClsMeth
import HandS.FStr
import HandS.Steps
import HandS.ExcIs
import HandS.WordsExc
import HandS.ExcValue
import KE.KRevSl
import HandS.TupAny
import HandS.TupMul
import HandS.More
import HandS.ForDict
import KE.KSortedM
import HandS.Finally
import KE.KDictZip
import KE.KItemsList
import HandS.Iter
import HandS.Dict
import HandS.ExcField
import HandS.SetFor
import HandS.Conv
import PySem.Challenge.RW_fieldtable_k63_logs_known
set_option Elab.async false
set_option linter.all false
set_option maxRecDepth 100000
set_option maxHeartbeats 4000000
namespace Fld
open PySem PySem.Spec PyProof.Rows L2
/-! ### a written dict whose keys are ints -/
def EntI : List DictEntry → List (Int × V) → Prop := Paired fun (e : DictEntry) (p : Int × V) => (∃ t, e.key = Value.int p.1 t) ∧ e.hash = hashInt p.1 ∧ RelV p.2 e.val
structure IDict (K : PySem.W.Frag) (d : Addr) (kvs : List (Int × V)) : Prop where
  ex : ∃ es n, K.lookup d = some ⟨.type "dict", none, .dict es n, #[]⟩ ∧ EntI es.toList kvs
  low : (d == sysModules) = false
def valI (kvs : List (Int × V)) (k : Int) : Option V := (kvs.find? fun p => p.1 == k).map (·.2)
theorem findI : ∀ {es : List DictEntry} {kvs : List (Int × V)} (k : Int), EntI es kvs → RelO (valI kvs k) ((es.find? fun e => Value.isInt k e.key).map (·.val))
  | _, _, k, .nil => True.intro
  | e :: es, p :: kvs, k, .cons h t => by
    obtain ⟨⟨u, e1⟩, e2, e3⟩ := h
    have ih := findI k t
    unfold valI
    rw [List.find?_cons, List.find?_cons, e1]
    by_cases c : p.1 = k
    · subst c
      have q : Value.isInt p.1 (Value.int p.1 u) = true := by simp [Value.isInt]
      rw [q]
      simp only [beq_self_eq_true, Option.map_some]
      exact e3
    · have q : Value.isInt k (Value.int p.1 u) = false := by simp [Value.isInt, c]
      have q2 : (p.1 == k) = false := by simp [c]
      rw [q, q2]
      exact ih
section
variable {X : Cx} {d : Addr} {kvs : List (Int × V)}
theorem IDict.map (D : IDict X.K d kvs) {h : Heap} (I : X.K.In h) : ∃ es : Array DictEntry, h.MapOf (intKind X.prog X.w) d (fun k => findBy Value.isInt es k) ∧ EntI es.toList kvs := by
  obtain ⟨es, n, l, e⟩ := D.ex
  refine ⟨es, ⟨_, es, n, I _ _ l, ⟨rfl, rfl, rfl⟩, rfl, fun x hx => ?_, fun _ => rfl⟩, e⟩
  have mem : ∀ {es : List DictEntry} {kvs : List (Int × V)}, EntI es kvs → ∀ x ∈ es, ∃ k t, x.key = Value.int k t ∧ x.hash = hashInt k := by
    intro es kvs r
    induction r with
    | nil => intro x hx; cases hx
    | cons h t ih =>
      intro x hx
      rcases List.mem_cons.mp hx with rfl | hx
      · obtain ⟨⟨u, e1⟩, e2, _⟩ := h
        exact ⟨_, u, e1, e2⟩
      · exact ih x hx
  obtain ⟨k, t, e1, e2⟩ := mem e x (Array.mem_toList_iff.mpr hx)
  exact ⟨k, by rw [e1]; exact intKind_is _ _ k t, e2⟩
theorem findE {es : Array DictEntry} (e : EntI es.toList kvs) (k : Int) : RelO (valI kvs k) (findBy Value.isInt es k) := by
  obtain ⟨l⟩ := es
  have := findI k e
  unfold findBy
  rw [List.find?_toArray]
  exact this
theorem isSome_of {a : Option V} {b : Option Value} (r : RelO a b) : b.isSome = a.isSome := by
  cases a <;> cases b <;> first | rfl | exact r.elim
/-- k in d, d a written dict with int keys -/
def rInI (d : Addr) (kvs : List (Int × V)) : R2 := fun x y H Q => ∃ k : Int, x = .int k ∧ y = .ref d ∧ Q (.bl (valI kvs k).isSome) H
theorem op_in_kdI (D : IDict X.K d kvs) : OpR X (compareOp .In) (rInI d kvs) := by
  intro pins s σ H x y v u Q I rx ry h
  obtain ⟨k, rfl, rfl, q⟩ := h
  obtain ⟨t, rfl⟩ := rx
  cases ry
  obtain ⟨es, m, e⟩ := D.map I.kIn
  refine wpAny_in_of (PySem.intKind_is X.prog X.w k t) D.low m ?_
  rw [isSome_of (findE e k)]
  exact ⟨.bl _, H, I.tok _, rfl, q⟩
/-- d[k] -/
def rIxI (d : Addr) (kvs : List (Int × V)) : R2 := fun x y H Q => ∃ (k : Int) (v : V), x = .ref d ∧ y = .int k ∧ valI kvs k = some v ∧ Q v H
theorem ix_kdI (D : IDict X.K d kvs) : IxR X (rIxI d kvs) := by
  intro value slice pins s σ H x y v u Q I rx ry h hs
  obtain ⟨k, z, rfl, rfl, hv, q⟩ := h
  cases rx
  obtain ⟨t, rfl⟩ := ry
  obtain ⟨es, m, e⟩ := D.map I.kIn
  have r := findE e k
  rw [hv] at r
  obtain ⟨u0, e0, ru⟩ := RelO.some_of r
  exact tail_any m.typeIs slot_dict_getitem.lookup (wpAny_getItem_of (PySem.intKind_is X.prog X.w k t) m e0 ⟨z, H, I.tok _, ru, q⟩) hs
end
/-! ### text * int -/
def repS (x : Str) (n : Nat) : Str := ⟨(List.replicate n x.cps.toList).flatten.toArray⟩
theorem foldl_app : ∀ (k : Nat) (xs : Array Nat) (acc : Array Nat), (List.replicate k xs).foldl (· ++ ·) acc = acc ++ (List.replicate k xs.toList).flatten.toArray
  | 0, xs, acc => by simp
  | k + 1, xs, acc => by
    rw [List.replicate_succ, List.foldl_cons, foldl_app k xs, List.replicate_succ, List.flatten_cons]
    apply Array.ext'
    simp [List.append_assoc]
theorem repS_tl (x : Str) (n : Nat) : (repS x n).cps.toList = (List.replicate n x.cps.toList).flatten := rfl
theorem op_mul_str {X : Cx} : OpR X (binaryOp .Mult) (fun x y H Q => ∃ (z : Str) (k : Int), x = .str z ∧ y = .int k ∧ 1 < k ∧ k < 1000 ∧ 0 < z.length ∧ z.length ≤ 1000 ∧ Q (.str (repS z k.toNat)) H) := by
  intro pins s σ H x y v u Q I rx ry h
  obtain ⟨z, k, rfl, rfl, h1, h2, h3, h4, q⟩ := h
  obtain ⟨t, rfl⟩ := rx
  obtain ⟨t', rfl⟩ := ry
  have hlen : (z.length == 0) = false := by simp; omega
  have hk1 : (k == 1) = false := by simp; omega
  refine PySem.P.mul_str (by
      rw [decide_eq_false (by omega), decide_eq_false (by omega)]; rfl) (fun _ _ => ?_) (fun _ _ => ?_) ?_
  · have : (1000 : Int) ≤ (2 ^ 63 - 1) / k := by
      rw [Int.le_ediv_iff_mul_le (by omega)]
      omega
    omega
  · have a1 : z.length * k.toNat ≤ 1000 * 1000 := Nat.mul_le_mul h4 (by omega)
    have a2 : ¬ (z.length * k.toNat > sizeLine) := by rw [sizeLine_eq]; omega
    show (decide _) = false
    first | exact decide_eq_false a2 | simp [a2]
  · rw [if_neg (by omega), hk1, hlen]
    simp only [Bool.or_self, Bool.false_eq_true, if_false]
    have e : (⟨(List.replicate k.toNat z.cps).foldl (· ++ ·) #[]⟩ : Str) = repS z k.toNat := by
      unfold repS
      rw [foldl_app]
      simp
    rw [e]
    refine ⟨?_, ⟨.str (repS z k.toNat), H, I.tok _, ⟨_, rfl⟩, q⟩⟩
    have a1 : z.length * k.toNat ≤ 1000 * 1000 := Nat.mul_le_mul h4 (by omega)
    have e2 : (repS z k.toNat).length = k.toNat * z.length := by
      show (List.replicate k.toNat z.cps.toList).flatten.toArray.size = _
      simp
      rfl
    rw [Nat.mul_comm] at a1
    first
      | exact decide_eq_false (by rw [e2, sizeLine_eq]; omega)
      | (rw [e2]; simp [sizeLine_eq]; omega)
      | (rw [e2, sizeLine_eq]; omega)
end Fld
namespace Fld
open PySem PySem.Spec PyProof.Rows L2
/-! ### enumerate(text) -/
/-- the signs of x, each in a new pair with its place -/
def ItS (x : Str) : It :=
  ⟨fun i H => i < x.cps.size, fun i H v H' => ∃ T c, v = .ref T ∧ H T = none ∧ H' = upd H T (.tup [.int (i : Nat), .str ⟨#[c]⟩]) ∧ x.cps[i]? = some c, fun i H => x.cps.size ≤ i⟩
theorem turn_enumS {P : Program} {w : World} {K : PySem.W.Frag} {elts : List Expr} {kk : Nat} {tpos : Pos} (x : Str) (t : Tok) (e it : Addr) :
    Turn P w K (.Tuple elts kk tpos) (ItS x) [e, it] e (fun i h => (∃ old, IsEnum h e it ((i : Nat) : Int) old) ∧ h.IsStrIter it (strIterType x) x t i ∧ e ≠ it ∧ i ≤ x.cps.size) where
  mem := by simp
  obj := fun i h st b hb => by
    obtain ⟨⟨old, he⟩, hi, _⟩ := st
    have e' : b = e ∨ b = it := by simpa using hb
    rcases e' with z | z
    · rw [z]; exact ⟨_, he, fun v q => nomatch q⟩
    · rw [z]; obtain ⟨o, ho, hc, hd⟩ := hi; exact ⟨_, ho, fun v q => by rw [hd] at q; cases q⟩
  keep := fun i h h' st k => let ⟨⟨old, he⟩, hi, hne, hl⟩ := st; ⟨⟨old, k e (by simp) _ he⟩, by obtain ⟨o, ho, hc, hd⟩ := hi; exact ⟨o, k it (by simp) o ho, hc, hd⟩, hne, hl⟩
  item := by
    intro X hP hw hK hc i pins s σ H E I hf st hg
    subst hP hw hK
    obtain ⟨⟨old, he⟩, hit, hne, hl⟩ := st
    have D := Draws.text (prog := X.prog) (w := X.w) (A := X.A.in1) (I.ok.hd hc) it x t
    have hel : e < s.heap.objs.size := Heap.lt_size he
    have hil : it < s.heap.objs.size := by obtain ⟨_, q⟩ := D.live i s.heap hit; exact Heap.lt_size q
    refine wpAny_pyNext_enum_itemC D he hit hg hne (by simp [hne]) fun u h' tk hP ho hit' hT hsz hk => ?_
    obtain ⟨c, tu, hx, rfl⟩ := hP
    refine ⟨_, rfl, wpAny_letOwnedTupleGo_enum (s := { s with heap := h', toks := tk + 1 }) ho fun h'' he' sb => ?_⟩
    have hT2 : h''.get? s.heap.objs.size = some { cls := .type "tuple", data := .seq #[.int i tk, .str ⟨#[c]⟩ tu] } := (sb.2 _ (Nat.ne_of_gt hel)).trans hT
    have new : ObjOk X.prog X.w (upd H s.heap.objs.size (.tup [.int (i : Nat), .str ⟨#[c]⟩])) h'' s.heap.objs.size (.tup [.int (i : Nat), .str ⟨#[c]⟩]) :=
      ⟨by show 2 ≤ sizeLine; decide, [.int i tk, .str ⟨#[c]⟩ tu], .cons ⟨_, rfl⟩ (.cons ⟨_, rfl⟩ .nil), ⟨_, hT2, rfl, _, rfl⟩⟩
    have I1 : Inv X pins σ (upd H s.heap.objs.size (.tup [.int (i : Nat), .str ⟨#[c]⟩])) { s with heap := h'', toks := tk + 1 } :=
      I.turnedNew (ch := [e, it]) (fun b ob hb q => (sb.2 b (fun z => hb (by simp [z]))).trans (hk b ob (fun z => hb (by simp [z])) (fun z => hb (by simp [z])) q)) hf (Nat.le_refl _) new
    refine ⟨.ref s.heap.objs.size, _, I1, rfl, ⟨_, c, rfl, I.hok.fresh (Nat.le_refl _), rfl, hx⟩, ⟨⟨.str ⟨#[c]⟩ tu, ?_⟩, D.frame _ _ _ hit' (fun b hb o q => ?_), hne, hg⟩, fun b hb => ?_⟩
    · have e1 : ((i + 1 : Nat) : Int) = (i : Int) + 1 := by omega
      rw [e1]; exact he'
    · have eb : b = it := by simpa using hb
      rw [eb] at q ⊢
      exact (sb.2 it (Ne.symm hne)).trans q
    · have hb' : b < s.heap.objs.size := by
        have e' : b = e ∨ b = it := by simpa using hb
        rcases e' with z | z
        · rw [z]; exact hel
        · rw [z]; exact hil
      rw [upd_ne (Nat.ne_of_lt hb')]
      exact (hf b hb).1
  done := by
    intro X hP hw hK hc i pins s σ H E I hf st hg
    subst hP hw hK
    obtain ⟨⟨old, he⟩, hit, hne, hl⟩ := st
    have ei : i = x.cps.size := Nat.le_antisymm hl hg
    subst ei
    have D := Draws.text (prog := X.prog) (w := X.w) (A := X.A.in1) (I.ok.hd hc) it x t
    obtain ⟨f0, f1, f2, f3, f4, f5⟩ := hf it (by simp)
    exact wpAny_pyNext_enum_endD D he hit fun h' eb => ⟨rfl, I.turned (t' := s.toks) (fun b o hb q => eb b o hb q) f0 f1 f3 f4 f5⟩
  self := fun A i s Q E st h => let ⟨⟨_, he⟩, _⟩ := st; wpAny_pyIter_enum he h
def iEnumS (ta : TA) : TI := fun σ H R => ta σ H fun vs H1 => ∃ x, vs = [.str x] ∧ R (ItS x) H1
theorem pi_enumS {X : Cx} {e : Expr} {ta : TA} {p pos tpos : Pos} {elts : List Expr} {kk : Nat} (hg : Gl X "enumerate") (hm : X.mg "enumerate" = none) (ha : PA X [e] ta) (hs : starEach [e] X.env = [(false, eval e X.env)] := by rfl) :
    PI X (.Tuple elts kk tpos) (.Call (.Name "enumerate" p) [e] [] pos) (iEnumS ta) := by
  refine ⟨fun pins s σ H R I h => ?_⟩
  refine Call_ (ld_blt I hg hm boot_enumerate (PyProof.Rows.callWith_type1 (thn (ha.run pos pins s σ H _ I h) fun us s1 ⟨vs, H1, I1, r1, q1⟩ => ?_) hs rfl))
  obtain ⟨x, ex, q⟩ := q1
  subst ex
  cases r1 with
  | cons r rr =>
    cases rr
    obtain ⟨t, rfl⟩ := r
    refine call_enumerate_str fun h' he hit hsz hk => wpAny_pyIter_enum he ?_
    have I2 : Inv X pins σ H1 { s1 with heap := h' } := I1.kept (t' := s1.toks) hk
    refine ⟨s1.heap.objs.size + 1, [s1.heap.objs.size + 1, s1.heap.objs.size], _, _, H1, rfl, I2, turn_enumS x t (s1.heap.objs.size + 1) s1.heap.objs.size, ⟨⟨.none, he⟩, hit, Nat.succ_ne_self _, Nat.zero_le _⟩, fun b hb => ?_, q⟩
    have e' : b = s1.heap.objs.size + 1 ∨ b = s1.heap.objs.size := by simpa using hb
    have hle : s1.heap.objs.size ≤ b := by
      rcases e' with z | z
      · rw [z]; exact Nat.le_add_right _ _
      · rw [z]; exact Nat.le_refl _
    exact I1.fpOk hle (I1.hok.fresh hle)
/-- the walk of it -/
theorem walk_enumS {x : Str} : Walk (ItS x) x.cps.size (fun _ => True) (fun i H v H' => ∃ T c, v = .ref T ∧ H T = none ∧ H' = upd H T (.tup [.int (i : Nat), .str ⟨#[c]⟩]) ∧ x.cps[i]? = some c) :=
  ⟨fun _ _ hi _ => hi, fun _ _ => Nat.le_refl _, fun _ _ _ _ _ _ y => y⟩
end Fld
namespace Fld
open PySem PySem.Spec PyProof.Rows L2
/-! ### the characters -/
def charCodes : List Nat := [32, 45, 46, 47, 48, 49, 50, 51, 52, 53, 54, 55, 56, 57, 58, 59, 61, 97, 98, 99, 100, 101, 102, 103, 104, 105, 106, 107, 108, 109, 110, 111, 112, 113, 114, 115, 116, 117, 118, 119, 120, 121, 122]
def chars : List (Int × V) := charCodes.map fun (c : Nat) => (((c : Nat) : Int), V.str ⟨#[c]⟩)
/-! ### the heap but for one object -/
def Off (p : Addr) (H : Hp) : Hp := fun b => if b = p then none else H b
/-- all but p stands -/
def But (p : Addr) (H H' : Hp) : Prop := ∀ b o, b ≠ p → H b = some o → H' b = some o
theorem But.refl (p : Addr) (H : Hp) : But p H H := fun _ _ _ h => h
theorem But.trans {p : Addr} {H H1 H2 : Hp} (a : But p H H1) (b : But p H1 H2) : But p H H2 := fun c o n h => b c o n (a c o n h)
theorem But.of {p : Addr} {H H' : Hp} (s : Same H H') : But p H H' := fun c o _ h => s c o h
theorem But.set {p : Addr} {H : Hp} {o : HO} : But p H (upd H p o) := fun c u n h => by rw [upd_ne n]; exact h
theorem But.new {p q : Addr} {H : Hp} {o : HO} (h : H q = none) : But p H (upd H q o) := fun c u n e => by rw [upd_ne (ne_of_none e h)]; exact e
theorem _root_.L2.Same.new {q : Addr} {H : Hp} {o : HO} (h : H q = none) : Same H (upd H q o) := fun c u e => by rw [upd_ne (ne_of_none e h)]; exact e
theorem But.put {p q : Addr} {H H' : Hp} {o : HO} (b : But p H H') (h : H q = none) : But p H (upd H' q o) := fun u v n e => by rw [upd_ne (ne_of_none e h)]; exact b u v n e
/-- what is true of all values of the heap but p -/
theorem But.none {p q : Addr} {H H' : Hp} (b : But p H H') (n : q ≠ p) (h : H' q = Option.none) : H q = Option.none := by
  cases e : H q with
  | none => rfl
  | some o => rw [b q o n e] at h; cases h
/-! ### the pen: a list of cells, how many were taken, what is left of the last -/
structure Pen (H : Hp) (p c : Addr) (n : Nat) : Prop where
  ex : ∃ (at_ : Nat) (acc : Int) (ns : List Int), H p = some (.lst [.ref c, .int (at_ : Nat), .int acc]) ∧ H c = some (.lst (ns.map V.int)) ∧ c ≠ p ∧ ns.length ≤ 63 ∧ at_ ≤ n
theorem Pen.mono {H : Hp} {p c : Addr} {n m : Nat} (h : Pen H p c n) (l : n ≤ m) : Pen H p c m := by
  obtain ⟨a, acc, ns, h1, h2, h3, h4, h5⟩ := h.ex
  exact ⟨a, acc, ns, h1, h2, h3, h4, Nat.le_trans h5 l⟩
theorem Pen.keep {H H' : Hp} {p c : Addr} {n : Nat} (h : Pen H p c n) (k : Same H H') : Pen H' p c n := by
  obtain ⟨a, acc, ns, h1, h2, h3, h4, h5⟩ := h.ex
  exact ⟨a, acc, ns, k _ _ h1, k _ _ h2, h3, h4, h5⟩
theorem Pen.some {H : Hp} {p c : Addr} {n : Nat} (h : Pen H p c n) : (∃ xs, H p = some (.lst xs)) ∧ ∃ xs, H c = some (.lst xs) := by
  obtain ⟨a, acc, ns, h1, h2, h3, h4, h5⟩ := h.ex
  exact ⟨⟨_, h1⟩, ⟨_, h2⟩⟩
theorem Pen.ne {H : Hp} {p c q : Addr} {n : Nat} (h : Pen H p c n) (hq : H q = none) : p ≠ q := by
  obtain ⟨⟨xs, e⟩, _⟩ := h.some
  exact ne_of_none e hq
theorem Pen.nec {H : Hp} {p c q : Addr} {n : Nat} (h : Pen H p c n) (hq : H q = none) : c ≠ q := by
  obtain ⟨_, ⟨xs, e⟩⟩ := h.some
  exact ne_of_none e hq
theorem Pen.upd {H : Hp} {p c q : Addr} {n : Nat} {o : HO} (h : Pen H p c n) (h1 : p ≠ q) (h2 : c ≠ q) : Pen (upd H q o) p c n := by
  obtain ⟨a, acc, ns, e1, e2, e3, e4, e5⟩ := h.ex
  exact ⟨a, acc, ns, by rw [upd_ne h1]; exact e1, by rw [upd_ne h2]; exact e2, e3, e4, e5⟩
/-- a draw: the pen may turn, all else stands -/
structure Drew (p c : Addr) (H H' : Hp) (n : Nat) : Prop where
  pen : Pen H' p c n
  but : But p H H'
theorem Drew.trans {p c : Addr} {H H1 H2 : Hp} {n m : Nat} (a : Drew p c H H1 n) (b : Drew p c H1 H2 m) : Drew p c H H2 m := ⟨b.pen, a.but.trans b.but⟩
theorem Drew.keep {p c : Addr} {H H1 H2 : Hp} {n : Nat} (a : Drew p c H H1 n) (s : Same H1 H2) : Drew p c H H2 n := ⟨a.pen.keep s, a.but.trans (But.of s)⟩
theorem Drew.mono {p c : Addr} {H H1 : Hp} {n m : Nat} (a : Drew p c H H1 n) (l : n ≤ m) : Drew p c H H1 m := ⟨a.pen.mono l, a.but⟩
theorem Drew.pre {p c : Addr} {H H1 H2 : Hp} {n : Nat} (s : Same H H1) (a : Drew p c H1 H2 n) : Drew p c H H2 n := ⟨a.pen, (But.of s).trans a.but⟩
/-- law's: a list of at most 63 ints is handed in, True comes out -/
def spLaw (K : PySem.W.Frag) : Sp := fun vs H Q _ => ∃ (a : Addr) (ns : List Int), vs = [.ref a] ∧ SqL K H a (ns.map V.int) ∧ ns.length ≤ 63 ∧ ∀ H', Q (.bl true) H'
end Fld
namespace Fld
open PySem PySem.Spec PyProof.Rows L2
/-! ### what kind of value -/
inductive Kind (K : PySem.W.Frag) (H : Hp) : V → String → Prop where
  | non : Kind K H .non "NoneType"
  | bl (b : Bool) : Kind K H (.bl b) "bool"
  | int (i : Int) : Kind K H (.int i) "int"
  | str (x : Str) : Kind K H (.str x) "str"
  | flt (x : UInt64) : Kind K H (.flt x) "float"
  | lst {a : Addr} {xs : List V} (h : SqL K H a xs) : Kind K H (.ref a) "list"
  | tup {a : Addr} {xs : List V} (h : SqT K H a xs) : Kind K H (.ref a) "tuple"
  | dK {a : Addr} {kvs : List (Key × V)} (h : H a = some (.dK kvs)) : Kind K H (.ref a) "dict"
theorem tyL {K : PySem.W.Frag} {H : Hp} {a : Addr} {xs : List V} (h : SqL K H a xs) : TyX K H (.ref a) (.type "list") := by
  rcases h with (h | ⟨o, h⟩) | ⟨o, its, n, h1, h2, _⟩
  · exact .base (.lst h)
  · exact .base (.frz h)
  · exact .kList h1 h2
theorem tyT {K : PySem.W.Frag} {H : Hp} {a : Addr} {xs : List V} (h : SqT K H a xs) : TyX K H (.ref a) (.type "tuple") := by
  rcases h with (h | ⟨o, h⟩) | ⟨o, its, n, h1, h2, _⟩
  · exact .base (.tup h)
  · exact .fTuple h
  · exact .kTuple h1 h2
theorem Kind.ty {K : PySem.W.Frag} {H : Hp} {v : V} {t : String} (k : Kind K H v t) : TyX K H v (.type t) := by
  cases k with
  | non => exact .base .non
  | bl b => exact .base (.bl b)
  | int i => exact .base (.int i)
  | str x => exact .base (.str x)
  | flt x => exact .base (.flt x)
  | lst h => exact tyL h
  | tup h => exact tyT h
  | dK h => exact .base (.dK h)
def subT (a b : String) : Bool := a == b || (a == "bool" && b == "int")
def clsNames : List String := ["int", "bool", "str", "list", "tuple", "dict"]
theorem kitAll : (["NoneType", "bool", "int", "str", "float", "list", "tuple", "dict"].all fun a => clsNames.all fun b => kitB a b == some (subT a b)) = true := by decide +kernel
theorem Kind.mem {K : PySem.W.Frag} {H : Hp} {v : V} {t : String} (k : Kind K H v t) : t ∈ ["NoneType", "bool", "int", "str", "float", "list", "tuple", "dict"] := by
  cases k <;> decide
theorem Kind.kit {K : PySem.W.Frag} {H : Hp} {v : V} {t b : String} (k : Kind K H v t) (hb : clsNames.contains b = true := by decide) : PySem.W.kitOne K (.type t) (.type b) = some (subT t b) := by
  have h := List.all_eq_true.mp kitAll t k.mem
  have h2 := List.all_eq_true.mp h b (List.contains_iff_mem.mp hb)
  exact kit_ty (eq_of_beq h2)
theorem Kind.kit2 {K : PySem.W.Frag} {H : Hp} {v : V} {t b c : String} (k : Kind K H v t) (hb : clsNames.contains b = true := by decide) (hc : clsNames.contains c = true := by decide) :
    PySem.W.kitAny K (.type t) [.type b, .type c] = some (subT t b || subT t c) := by
  refine kitAny_cons (k.kit hb) (fun e => ?_) fun e => ?_
  · rw [e]
    refine kitAny_cons (k.kit hc) (fun e2 => ?_) fun e2 => ?_
    · rw [e2]; exact kitAny_nil
    · rw [e2]; rfl
  · rw [e]; rfl
theorem Kind.keep {K : PySem.W.Frag} {H H' : Hp} {v : V} {t : String} (k : Kind K H v t) (s : Same H H') : Kind K H' v t := by
  cases k with
  | non => exact .non
  | bl b => exact .bl b
  | int i => exact .int i
  | str x => exact .str x
  | flt x => exact .flt x
  | lst h => exact .lst (s.seq h)
  | @tup a xs h =>
    refine .tup (xs := xs) ?_
    rcases h with (h | ⟨o, h⟩) | h
    · exact .inl (.inl (s _ _ h))
    · exact .inl (.inr ⟨o, s _ _ h⟩)
    · exact .inr h
  | dK h => exact .dK (s _ _ h)
theorem ifb {c : Bool} {A B : Prop} (h1 : c = true → A) (h2 : c = false → B) : if c = true then A else B := by
  cases c
  · rw [if_neg (by decide)]; exact h2 rfl
  · rw [if_pos rfl]; exact h1 rfl
theorem Q_bl {Q : VK} {a b : Bool} {H : Hp} (h : Q (.bl a) H) (e : a = b) : Q (.bl b) H := e ▸ h
theorem Q_int {Q : VK} {a b : Int} {H : Hp} (h : Q (.int a) H) (e : a = b) : Q (.int b) H := e ▸ h
/-! ### is_between -/
def btw : V → Int → Int → Bool
  | .int i, a, b => decide (a ≤ i) && decide (i ≤ b)
  | _, _, _ => false
def sp_is_between (K : PySem.W.Frag) : Sp := fun vs H Q _ => ∃ (v : V) (t : String) (a b : Int), vs = [v, .int a, .int b] ∧ Kind K H v t ∧ Q (.bl (btw v a b)) H
end Fld
namespace Fld
open PySem PySem.Spec PyProof.Rows L2
/-! ### comprehensions -/
section
variable {J : It} {n : Nat} {G : Hp → Prop} {Y : Nat → Hp → V → Hp → Prop} {g : TG} {tt : TT} {te : TE} {vs : List Nat} {σ : L2.St} {H1 : Hp} {D : Addr} {Qd : Hp → Prop}
theorem yesI {σ : L2.St} {H : Hp} {A B : Hp → Prop} (h : A H) : tYes σ H (fun b H3 => if b = true then A H3 else B H3) := by
  show (if true = true then A H else B H)
  rw [if_pos rfl]; exact h
/-- by an invariant of the turn, the items so far, the heap -/
theorem lc_gen (w : Walk J n G Y) (I : Nat → List V → Hp → Prop) (hz : n ≤ 10000000) (h0 : I 0 [] (upd H1 D (.lst []))) (hG : ∀ i ys H, I i ys H → G H)
    (hs : ∀ i ys x H' H'' (Q' : VK) (Z : Hp → Prop), i < n → ys.length = i → H' D = some (.lst ys) → I i ys H' → Y i H' x H'' → (∀ y H4, H4 D = some (.lst ys) → I (i + 1) (ys ++ [y]) (upd H4 D (.lst (ys ++ [y]))) → Q' y H4) →
      g x (wipe σ vs) H'' fun σ2 H2 => wipe σ2 vs = wipe σ vs ∧ tYes σ2 H2 fun b H3 => if b = true then te σ2 H3 Q' else Z H3)
    (hd : ∀ ys H', ys.length = n → H' D = some (.lst ys) → I n ys H' → Qd H') :
    ∃ W : Nat → Nat → Hp → Prop, (∃ m, W 0 m (upd H1 D (.lst []))) ∧ ∀ i m H, W i m H →
      (J.stop i H ∧ Qd H) ∨ (J.go i H ∧ ∃ Nx : Hp → Prop, (∀ H', Nx H' → ∃ m', m' < m ∧ W (i + 1) m' H') ∧ ∀ x H', J.yld i H x H' → g x (wipe σ vs) H' fun σ2 H2 => wipe σ2 vs = wipe σ vs ∧ tYes σ2 H2 fun b H3 =>
        if b = true then te σ2 H3 fun y H4 => ∃ acc, H4 D = some (.lst acc) ∧ acc.length < sizeLine ∧ Nx (upd H4 D (.lst (acc ++ [y]))) else Nx H3) := by
  refine lc_it w (fun i H => ∃ ys : List V, ys.length = i ∧ H D = some (.lst ys) ∧ I i ys H) ⟨[], rfl, upd_same, h0⟩ (fun i H _ ⟨ys, _, _, h⟩ => hG i ys H h) ?_ ?_
  · rintro i x H H' hi ⟨ys, hl, hD, h⟩ y
    refine hs i ys x H H' _ _ hi hl hD h y fun z H4 e4 h4 => ?_
    refine ⟨ys, e4, ?_, ys ++ [z], by simp [hl], upd_same, h4⟩
    rw [sizeLine_eq]
    omega
  · rintro H ⟨ys, hl, hD, h⟩
    exact hd ys H hl hD h
/-- each item its value, all that stood stands -/
theorem lc_map (w : Walk J n G Y) (f : Nat → V) (hz : n ≤ 10000000) (hD : H1 D = none) (hG : ∀ H, Same H1 H → G H)
    (hs : ∀ i x H' H'' (Q' : VK) (Z : Hp → Prop), i < n → Same H1 H' → Y i H' x H'' → (∀ H4, Same H' H4 → Q' (f i) H4) →
      g x (wipe σ vs) H'' fun σ2 H2 => wipe σ2 vs = wipe σ vs ∧ tYes σ2 H2 fun b H3 => if b = true then te σ2 H3 Q' else Z H3)
    (hd : ∀ H', Same H1 H' → H' D = some (.lst ((List.range n).map f)) → Qd H') :
    ∃ W : Nat → Nat → Hp → Prop, (∃ m, W 0 m (upd H1 D (.lst []))) ∧ ∀ i m H, W i m H →
      (J.stop i H ∧ Qd H) ∨ (J.go i H ∧ ∃ Nx : Hp → Prop, (∀ H', Nx H' → ∃ m', m' < m ∧ W (i + 1) m' H') ∧ ∀ x H', J.yld i H x H' → g x (wipe σ vs) H' fun σ2 H2 => wipe σ2 vs = wipe σ vs ∧ tYes σ2 H2 fun b H3 =>
        if b = true then te σ2 H3 fun y H4 => ∃ acc, H4 D = some (.lst acc) ∧ acc.length < sizeLine ∧ Nx (upd H4 D (.lst (acc ++ [y]))) else Nx H3) := by
  have up : ∀ H o, Same H1 H → Same H1 (upd H D o) := fun H o s b u e => by rw [upd_ne (ne_of_none e hD)]; exact s b u e
  refine lc_gen w (fun i ys H => Same H1 H ∧ ys = (List.range i).map f) hz ⟨up _ _ (Same.refl _), rfl⟩ (fun i ys H h => hG H h.1) ?_ ?_
  · rintro i ys x H H' Q' Z hi hl hDl ⟨s, rfl⟩ y q
    refine hs i x H H' Q' Z hi s y fun H4 s4 => q (f i) H4 (s4 D _ hDl) ⟨up _ _ (s.trans s4), ?_⟩
    rw [List.range_succ, List.map_append]
    rfl
  · rintro ys H hl hDl ⟨s, rfl⟩
    exact hd H s hDl
end
/-- the items of a list by their places -/
theorem range_map {α β : Type} (l : List α) (f : α → β) (d : α) : (List.range l.length).map (fun i => f (l.getD i d)) = l.map f := by
  apply List.ext_getElem?
  intro i
  by_cases h : i < l.length
  · simp [h]
  · have h2 : l.length ≤ i := Nat.not_lt.mp h
    simp [h2]
theorem getD_of {α : Type} {l : List α} {i : Nat} {c : α} (d : α) (h : l[i]? = some c) : l.getD i d = c := by
  rw [List.getD_eq_getElem?_getD, h]; rfl
theorem cps_at {x : Str} {i c : Nat} (h : x.cps[i]? = some c) : x.cps.toList[i]? = some c := by
  rw [Array.getElem?_toList]; exact h
/-! ### texts and numbers -/
def isChar (c : Nat) : Bool := charCodes.contains c
theorem valI_chars (c : Nat) : (valI chars (c : Int)) = if isChar c then some (.str ⟨#[c]⟩) else none := by
  unfold valI chars isChar
  have h : ∀ l : List Nat, ((l.map fun (c : Nat) => (((c : Nat) : Int), V.str ⟨#[c]⟩)).find? fun p => p.1 == (c : Int)).map (·.2) = if l.contains c then some (V.str ⟨#[c]⟩) else none := by
    intro l
    induction l with
    | nil => rfl
    | cons a r ih =>
      rw [List.map_cons, List.find?_cons, List.contains_cons]
      by_cases e : a = c
      · subst e; simp
      · have e1 : (((a : Nat) : Int) == (c : Int)) = false := by
          rw [beq_eq_false_iff_ne]; intro q; exact e (by omega)
        have e2 : (c == a) = false := by rw [beq_eq_false_iff_ne]; exact fun q => e q.symm
        simp only [e1, e2, Bool.false_or]
        exact ih
  exact h charCodes
def txt : V → Int → Int → Bool
  | .str x, a, b => decide (a ≤ (x.length : Int)) && decide ((x.length : Int) ≤ b) && x.cps.toList.all isChar
  | _, _, _ => false
def sp_is_text (K : PySem.W.Frag) : Sp := fun vs H Q _ => ∃ (v : V) (t : String) (a b : Int), vs = [v, .int a, .int b] ∧ Kind K H v t ∧ (∀ x, v = .str x → x.length ≤ 100000) ∧ ∀ H', Same H H' → Q (.bl (txt v a b)) H'
def sp_is_value (K : PySem.W.Frag) : Sp := fun vs H Q _ => ∃ (v : V) (t : String), vs = [v] ∧ Kind K H v t ∧ (∀ x, v = .str x → x.length ≤ 100000) ∧ ∀ H', Same H H' → Q (.bl (txt v 0 40)) H'
def sp_is_number (K : PySem.W.Frag) : Sp := fun vs H Q _ => ∃ (v : V) (t : String), vs = [v] ∧ Kind K H v t ∧ Q (.bl (btw v 0 9999)) H
def sp_prefix_bits : Sp := fun vs H Q _ => ∃ (b : Nat), vs = [.int (b : Nat)] ∧ b ≤ 64 ∧ Q (.int (2 ^ b - 1)) H
theorem len100 {n : Nat} (h : n ≤ 100000) : n ≤ sizeLine := by rw [sizeLine_eq]; omega
theorem str_len (x : Str) : x.length = x.cps.toList.length := rfl
end Fld
namespace Fld
open PySem PySem.Spec PyProof.Rows L2
theorem ifF {c : Bool} {A B : Prop} (h : c = false) (b : B) : if c = true then A else B := by
  rw [h, if_neg (by decide)]; exact b
theorem ifT {c : Bool} {A B : Prop} (h : c = true) (a : A) : if c = true then A else B := by
  rw [h, if_pos rfl]; exact a
theorem _root_.L2.Same.at {H H' : Hp} {p : Addr} {o : HO} (hp : H p = none) : Same H (upd H p o) := Same.new hp
theorem _root_.L2.Same.put {H H' : Hp} {p : Addr} {o : HO} (s : Same H H') (hp : H p = none) : Same H (upd H' p o) := fun b u e => by rw [upd_ne (ne_of_none e hp)]; exact s b u e
theorem _root_.L2.Same.tup {K : PySem.W.Frag} {H H' : Hp} {a : Addr} {xs : List V} (s : Same H H') (h : SqT K H a xs) : SqT K H' a xs := by
  rcases h with (h | ⟨o, h⟩) | h
  · exact .inl (.inl (s _ _ h))
  · exact .inl (.inr ⟨o, s _ _ h⟩)
  · exact .inr h
theorem btw_t {n a b : Int} (h1 : a ≤ n) (h2 : n ≤ b) : btw (.int n) a b = true := by
  show (decide (a ≤ n) && decide (n ≤ b)) = true
  rw [decide_eq_true h1, decide_eq_true h2]; rfl
/-! ### the octets of a number -/
def restOct (r : Nat) : List Int := if r < 128 then [(r : Int)] else (128 + (r : Int) % 128) :: restOct (r / 128)
termination_by r
theorem restOct_lt {r : Nat} (h : r < 128) : restOct r = [(r : Int)] := by rw [restOct, if_pos h]
theorem restOct_ge {r : Nat} (h : ¬ r < 128) : restOct r = (128 + (r : Int) % 128) :: restOct (r / 128) := by rw [restOct, if_neg h]
theorem restOct_len (r : Nat) : (restOct r).length ≤ r + 1 := by
  induction r using Nat.strongRecOn with
  | _ r ih =>
    by_cases h : r < 128
    · rw [restOct_lt h]; simp
    · rw [restOct_ge h, List.length_cons]
      have := ih (r / 128) (by omega)
      omega
def numOct (n b m : Nat) : List Int := if n < 2 ^ b - 1 then [((m + n : Nat) : Int)] else ((m + (2 ^ b - 1) : Nat) : Int) :: restOct (n - (2 ^ b - 1))
theorem numOct_len (n b m : Nat) : (numOct n b m).length ≤ n + 2 := by
  unfold numOct
  split
  · simp
  · have := restOct_len (n - (2 ^ b - 1))
    rw [List.length_cons]
    omega
theorem pow_pos2 (b : Nat) : 0 < 2 ^ b := Nat.pow_pos (by decide)
theorem bits_cast (b : Nat) : ((2 : Int) ^ b - 1) = ((2 ^ b - 1 : Nat) : Int) := by
  have h := pow_pos2 b
  have e : ((2 : Int) ^ b) = ((2 ^ b : Nat) : Int) := by norm_cast
  rw [e]
  omega
theorem pow_le8 {b : Nat} (h : b ≤ 8) : 2 ^ b ≤ 256 := Nat.le_trans (Nat.pow_le_pow_right (by decide) h) (by decide)
/-- a mark that leaves the prefix alone -/
def MarkOk (b m : Nat) : Prop := 1 ≤ b ∧ b ≤ 8 ∧ m ≤ 255 ∧ Builtin.bitAnd (m : Int) (((2 ^ b - 1 : Nat)) : Int) = 0
theorem and127 {r : Int} (h : 0 ≤ r) : Builtin.bitAnd r 127 = r % 128 := Bits.bitAnd_mask 7 h
/-- a new list of ints is handed back -/
def RetInts (ns : List Int) (H : Hp) (Q : VK) : Prop := ∀ p H', H p = none → Same H H' → H' p = some (.lst (ns.map V.int)) → Q (.ref p) H'
def sp_check_prefix : Sp := fun vs H Q _ => ∃ b m : Nat, vs = [.int (b : Nat), .int (m : Nat)] ∧ MarkOk b m ∧ Q .non H
def sp_number_octets : Sp := fun vs H Q _ => ∃ n b m : Nat, vs = [.int (n : Nat), .int (b : Nat), .int (m : Nat)] ∧ n ≤ 9999 ∧ MarkOk b m ∧ RetInts (numOct n b m) H Q
def sp_string_octets : Sp := fun vs H Q _ => ∃ (x : Str) (b m : Nat), vs = [.str x, .int (b : Nat), .int (m : Nat)] ∧ txt (.str x) 0 40 = true ∧ MarkOk b m ∧ RetInts (numOct x.length b m ++ x.cps.toList.map fun (c : Nat) => (c : Int)) H Q
def sp_law_number_octets : Sp := fun vs H Q _ => ∃ n b m : Nat, vs = [.int (n : Nat), .int (b : Nat), .int (m : Nat)] ∧ n ≤ 9999 ∧ b ≤ 8 ∧ RetInts (numOct n b m) H Q
def codeOf (c : Nat) : Int := if isChar c then (c : Int) else 0
def sp_law_code : Sp := fun vs H Q _ => ∃ c : Nat, vs = [.str ⟨#[c]⟩] ∧ ∀ H', Same H H' → Q (.int (codeOf c)) H'
def sp_law_text_octets : Sp := fun vs H Q _ => ∃ (x : Str) (b m : Nat), vs = [.str x, .int (b : Nat), .int (m : Nat)] ∧ x.length ≤ 9999 ∧ b ≤ 8 ∧ RetInts (numOct x.length b m ++ x.cps.toList.map codeOf) H Q
theorem txt_len {x : Str} (h : txt (.str x) 0 40 = true) : x.length ≤ 40 := by
  have h' : (decide ((0 : Int) ≤ (x.length : Int)) && decide ((x.length : Int) ≤ 40) && x.cps.toList.all isChar) = true := h
  simp only [Bool.and_eq_true, decide_eq_true_eq] at h'
  omega
theorem txt_all {x : Str} {a b : Int} (h : txt (.str x) a b = true) : x.cps.toList.all isChar = true := by
  have h' : (decide (a ≤ (x.length : Int)) && decide ((x.length : Int) ≤ b) && x.cps.toList.all isChar) = true := h
  rw [Bool.and_eq_true] at h'
  exact h'.2
def codeRows : List (List Nat) := [(" " : Str).cps.toList, ("-./0123456789:;" : Str).cps.toList, ("=" : Str).cps.toList, ("abcdefghijklmnopqrstuvwxyz" : Str).cps.toList]
theorem codeRows_all : codeRows.flatten = charCodes := by decide +kernel
theorem code_yes {c : Nat} (i : Nat) {r : List Nat} (h : codeRows[i]? = some r) (hm : c ∈ r) : isChar c = true := by
  unfold isChar
  rw [← codeRows_all]
  exact List.contains_iff_mem.mpr (List.mem_flatten.mpr ⟨r, List.mem_of_getElem? h, hm⟩)
theorem code_no {c : Nat} (i : Nat) {r : List Nat} (h : codeRows[i]? = some r) (hc : c ∉ (codeRows.take i).flatten) (hm : c ∉ r) : c ∉ (codeRows.take (i + 1)).flatten := by
  rw [List.take_add_one, h, List.flatten_append]
  intro z
  rcases List.mem_append.mp z with z | z
  · exact hc z
  · exact hm (by simpa using z)
theorem code_none {c : Nat} (hc : c ∉ (codeRows.take 4).flatten) : isChar c = false := by
  unfold isChar
  rw [← codeRows_all]
  have e : codeRows.take 4 = codeRows := rfl
  rw [e] at hc
  cases h : codeRows.flatten.contains c
  · rfl
  · exact absurd (List.contains_iff_mem.mp h) hc
theorem row_ok {x : Str} {first : Nat} (h : ((List.range x.cps.size).all fun i => x.cps.toList.getD i 0 == first + i) = true) : ∀ i r, x.cps[i]? = some r → r = first + i := by
  intro i r hr
  have hi : i < x.cps.size := (Array.getElem?_eq_some_iff.mp hr).1
  have e := eq_of_beq (List.all_eq_true.mp h i (List.mem_range.mpr hi))
  rw [getD_of 0 (cps_at hr)] at e
  exact e
theorem codes_chars {x : Str} (h : x.cps.toList.all isChar = true) : x.cps.toList.map codeOf = x.cps.toList.map fun (c : Nat) => (c : Int) := by
  apply List.map_congr_left
  intro c hc
  have := List.all_eq_true.mp h c hc
  unfold codeOf
  rw [if_pos this]
end Fld
namespace Fld
open PySem PySem.Spec PyProof.Rows L2
theorem at_ofN {α : Type} {xs : List α} {z : Int} {j : Nat} {v : α} (e : z = (j : Int)) (h : xs[j]? = some v) : atI xs z = some v := by
  rw [e]; exact atI_nat h
/-! ### slices by places -/
theorem cut_to (xs : List V) (k : Nat) : cutV xs none (some (k : Int)) = xs.take k := by
  unfold cutV
  rw [HT.sIx_none, HT.sIx_nat, List.drop_zero, Nat.sub_zero]
  by_cases h : k ≤ xs.length
  · rw [Nat.min_eq_left h]
  · rw [Nat.min_eq_right (by omega), List.take_of_length_le (Nat.le_refl _), List.take_of_length_le (by omega)]
theorem cut_mid (xs : List V) (a b : Nat) : cutV xs (some (a : Int)) (some (b : Int)) = (xs.drop a).take (b - a) := by
  unfold cutV
  rw [HT.sIx_nat, HT.sIx_nat]
  by_cases h : a ≤ xs.length
  · have e1 : min a xs.length = a := by omega
    rw [e1]
    by_cases h2 : b ≤ xs.length
    · have e2 : min b xs.length = b := by omega
      rw [e2]
    · rw [List.take_of_length_le (by rw [List.length_drop]; omega), List.take_of_length_le (by rw [List.length_drop]; omega)]
  · have e1 : min a xs.length = xs.length := by omega
    rw [e1, List.drop_eq_nil_of_le (Nat.le_refl _), List.drop_eq_nil_of_le (by omega), List.take_nil, List.take_nil]
theorem cut_from (xs : List V) (a : Nat) : cutV xs (some (a : Int)) none = xs.drop a := by
  unfold cutV
  rw [HT.sIx_nat, HT.sIx_none]
  by_cases h : a ≤ xs.length
  · rw [Nat.min_eq_left h, List.take_of_length_le (by rw [List.length_drop]; omega)]
  · rw [Nat.min_eq_right (by omega), List.drop_eq_nil_of_le (Nat.le_refl _), List.drop_eq_nil_of_le (by omega), List.take_nil]
/-! ### the spread -/
def primes : List Int := [2147483629, 2147483587, 2147483579, 2147483563, 2147483549, 2147483543, 2147483497, 2147483489, 2147483477, 2147483423, 2147483399, 2147483353, 2147483323]
theorem primes_at {k : Int} (h0 : 0 ≤ k) (h : k < 13) : ∃ r : Int, atI (primes.map V.int) k = some (.int r) ∧ 0 < r ∧ r < 2147483648 := by
  have hk : k.toNat < 13 := by omega
  have ek : k = ((k.toNat : Nat) : Int) := by omega
  have hall : ((List.range 13).all fun i => (primes[i]?).any fun r => decide (0 < r) && decide (r < 2147483648)) = true := by decide
  have h1 := List.all_eq_true.mp hall k.toNat (List.mem_range.mpr hk)
  cases e : primes[k.toNat]? with
  | none => rw [e] at h1; cases h1
  | some r =>
    rw [e] at h1
    have h2 : (decide (0 < r) && decide (r < 2147483648)) = true := h1
    rw [Bool.and_eq_true, decide_eq_true_eq, decide_eq_true_eq] at h2
    refine ⟨r, ?_, h2.1, h2.2⟩
    rw [ek]
    exact atI_nat (by rw [List.getElem?_map, e]; rfl)
theorem pow_small {i : Int} (h0 : 0 ≤ i) (h : i < 10 ^ 18) : i.natAbs < 2 ^ 64 := by
  have : (10 : Int) ^ 18 < 2 ^ 63 := by decide
  have e : (2 : Nat) ^ 64 = 18446744073709551616 := by decide
  have e2 : (10 : Int) ^ 18 = 1000000000000000000 := by decide
  omega
theorem mul_bd {a b A B : Int} (h1 : 0 ≤ a) (h2 : a ≤ A) (h3 : 0 ≤ b) (h4 : b ≤ B) : 0 ≤ a * b ∧ a * b ≤ A * B :=
  ⟨Int.mul_nonneg h1 h3, Int.mul_le_mul h2 h4 h3 (Int.le_trans h1 h2)⟩
theorem mul64 {a b : Int} (h1 : 0 ≤ a) (h2 : a < 10 ^ 18) : CMul a b := by
  have e : (2 : Int) ^ 64 = 18446744073709551616 := by decide
  have e2 : (10 : Int) ^ 18 = 1000000000000000000 := by decide
  refine .inl ⟨?_, ?_⟩ <;> omega
def sp_law_spread : Sp := fun vs H Q _ => ∃ (cell : Int) (a : Nat), vs = [.int cell, .int (a : Nat)] ∧ a ≤ 1000000 ∧ ∀ (r : Int) H', Same H H' → Q (.int r) H'
def sp_law_open (K : PySem.W.Frag) : Sp := fun vs H Q _ => ∃ (a : Addr) (ns : List Int), vs = [.ref a] ∧ SqL K H a (ns.map V.int) ∧ ns.length ≤ 63 ∧ ∀ p c H', H p = none → Same H H' → Pen H' p c 0 → Q (.ref p) H'
def sp_law_take : Sp := fun vs H Q _ => ∃ (p c : Addr) (n : Nat) (k : Int), vs = [.ref p, .int k] ∧ Pen H p c n ∧ 0 < k ∧ k < 1073741824 ∧ n ≤ 900000 ∧ ∀ (r : Int) H', 0 ≤ r → r < k → Drew p c H H' (n + 1) → Q (.int r) H'
/-- one of a list's items, whatever they are -/
def sp_law_one_of (K : PySem.W.Frag) : Sp := fun vs H Q _ => ∃ (p c a : Addr) (n : Nat) (xs : List V), vs = [.ref p, .ref a] ∧ Pen H p c n ∧ SqL K H a xs ∧ a ≠ p ∧ xs ≠ [] ∧ xs.length ≤ 1000 ∧ n ≤ 900000 ∧ ∀ (x : V) H', x ∈ xs → Drew p c H H' (n + 1) → Q x H'
def signs : Str := " -./0123456789:;=abcdefghijklmnopqrstuvwxyz"
def sp_law_signs : Sp := fun vs H Q _ => vs = [] ∧ Q (.str signs) H
theorem signs_cps : signs.cps.toList = charCodes := by decide +kernel
theorem But.seq {K : PySem.W.Frag} {p : Addr} {H H' : Hp} {a : Addr} {xs : List V} (b : But p H H') (n : a ≠ p) (h : SqL K H a xs) : SqL K H' a xs := by
  rcases h with (h | ⟨o, h⟩) | h
  · exact .inl (.inl (b _ _ n h))
  · exact .inl (.inr ⟨o, b _ _ n h⟩)
  · exact .inr h
end Fld
namespace Fld
open PySem PySem.Spec PyProof.Rows L2
def sp_law_draw_text : Sp := fun vs H Q _ => ∃ (p c : Addr) (n a b : Nat), vs = [.ref p, .int (a : Nat), .int (b : Nat)] ∧ Pen H p c n ∧ n ≤ 800000 ∧ a ≤ 1 ∧ a ≤ b ∧ b ≤ 40 ∧ ∀ (x : Str) H', txt (.str x) a b = true → Drew p c H H' (n + 50) → Q (.str x) H'
def sp_law_draw_number : Sp := fun vs H Q _ => ∃ (p c : Addr) (n : Nat), vs = [.ref p] ∧ Pen H p c n ∧ n ≤ 800000 ∧ ∀ (z : Nat) H', z ≤ 9999 → Drew p c H H' (n + 10) → Q (.int (z : Nat)) H'
theorem txt_of {x : Str} {a b : Int} (h1 : a ≤ (x.length : Int)) (h2 : (x.length : Int) ≤ b) (h3 : x.cps.toList.all isChar = true) : txt (.str x) a b = true := by
  show (decide (a ≤ (x.length : Int)) && decide ((x.length : Int) ≤ b) && x.cps.toList.all isChar) = true
  rw [decide_eq_true h1, decide_eq_true h2, h3]; rfl
/-- a text of one sign after another -/
theorem join_signs (cs : List Nat) : Txt.join ⟨#[]⟩ (cs.map fun c => (⟨#[c]⟩ : Str)) = ⟨cs.toArray⟩ := by
  rw [TL.join_eq]
  apply TL.ext_tl
  rw [TL.tl_join]
  have h : ∀ l : List Nat, TL.joinL (TL.tl (⟨#[]⟩ : Str)) ((l.map fun c => (⟨#[c]⟩ : Str)).map TL.tl) = l := by
    intro l
    induction l with
    | nil => rfl
    | cons a r ih =>
      cases r with
      | nil => rfl
      | cons b r' =>
        show [a] ++ ([] ++ TL.joinL [] _) = a :: b :: r'
        exact congrArg (a :: ·) ih
  rw [h]
/-- the first signs of a word repeated -/
theorem rep_all {z : Str} {n : Nat} (h : z.cps.toList.all isChar = true) : (repS z n).cps.toList.all isChar = true := by
  rw [repS_tl]
  rw [List.all_eq_true]
  intro c hc
  obtain ⟨l, hl, hcl⟩ := List.mem_flatten.mp hc
  rw [List.mem_replicate] at hl
  rw [hl.2] at hcl
  exact List.all_eq_true.mp h c hcl
theorem rep_len (z : Str) (n : Nat) : (repS z n).length = n * z.length := by
  show (List.replicate n z.cps.toList).flatten.toArray.size = _
  simp
  rfl
theorem cutS_to (x : Str) (k : Nat) : (cutS x none (some (k : Int))).cps.toList = x.cps.toList.take k := by
  unfold cutS
  show (x.cps.toList.drop _).take _ = _
  rw [HT.sIx_none, HT.sIx_nat, List.drop_zero, Nat.sub_zero]
  have e : x.length = x.cps.toList.length := rfl
  rw [e]
  by_cases h : k ≤ x.cps.toList.length
  · rw [Nat.min_eq_left h]
  · rw [Nat.min_eq_right (by omega), List.take_of_length_le (Nat.le_refl _), List.take_of_length_le (by omega)]
theorem txt_cut {x : Str} {a b k : Nat} (h1 : 9 ≤ x.length) (h2 : a ≤ 1 ∧ a ≤ k ∧ k ≤ b) (h3 : x.cps.toList.all isChar = true) : txt (.str (cutS x none (some (k : Int)))) a b = true := by
  have e : (cutS x none (some (k : Int))).cps.toList = x.cps.toList.take k := cutS_to x k
  have hl : (cutS x none (some (k : Int))).length = min k x.length := by
    show (cutS x none (some (k : Int))).cps.size = _
    rw [← Array.length_toList, e, List.length_take]
    rfl
  refine txt_of (by omega) (by omega) ?_
  rw [e, List.all_eq_true]
  intro c hc
  exact List.all_eq_true.mp h3 c (List.mem_of_mem_take hc)
def textWords : List Str := ["path", "accept-encoding", "a", ":method", "x=1; y=2"]
theorem words_ok : (textWords.all fun z => z.cps.toList.all isChar && decide (0 < z.length) && decide (z.length ≤ 15)) = true := by decide +kernel
/-! ### data of a bounded depth -/
def DLe : Nat → PyData → Prop
  | _, .none => True
  | _, .bool _ => True
  | _, .int _ => True
  | _, .str _ => True
  | 0, .list _ => False
  | 0, .tuple _ => False
  | n + 1, .list ds => ds.length ≤ 100000 ∧ ∀ d ∈ ds, DLe n d
  | n + 1, .tuple ds => ds.length ≤ 100000 ∧ ∀ d ∈ ds, DLe n d
  | _, _ => False
theorem dpAll_len {K : PySem.W.Frag} {H : Hp} : ∀ {xs : List V} {ds : List PyData}, DpAll K H xs ds → xs.length = ds.length
  | _, _, .nil => rfl
  | _, _, .cons _ t => by rw [List.length_cons, List.length_cons, dpAll_len t]
theorem dpAll_at {K : PySem.W.Frag} {H : Hp} : ∀ {xs : List V} {ds : List PyData} {i : Nat} {x : V}, DpAll K H xs ds → xs[i]? = some x → ∃ d, ds[i]? = some d ∧ Dp K H x d
  | _, _, _, _, .nil, e => by simp at e
  | _, _, 0, _, .cons h _, e => by simp at e; subst e; exact ⟨_, rfl, h⟩
  | _, _, i + 1, x, .cons _ t, e => by
    obtain ⟨d, h1, h2⟩ := dpAll_at (i := i) (x := x) t (by simpa using e)
    exact ⟨d, by simpa using h1, h2⟩
mutual
theorem dp_keep {K : PySem.W.Frag} {H H' : Hp} (s : Same H H') : ∀ {v : V} {d : PyData}, Dp K H v d → Dp K H' v d
  | _, _, .non => .non
  | _, _, .bl b => .bl b
  | _, _, .int i => .int i
  | _, _, .str x => .str x
  | _, _, .lst h a => .lst (s.seq h) (dpAll_keep s a)
  | _, _, .tup h a => .tup (s.tup h) (dpAll_keep s a)
theorem dpAll_keep {K : PySem.W.Frag} {H H' : Hp} (s : Same H H') : ∀ {vs : List V} {ds : List PyData}, DpAll K H vs ds → DpAll K H' vs ds
  | _, _, .nil => .nil
  | _, _, .cons h t => .cons (dp_keep s h) (dpAll_keep s t)
end
/-- _law_same on two values of the same data -/
def sp_law_same (K : PySem.W.Frag) (n : Nat) : Sp := fun vs H Q _ => ∃ (v u : V) (d : PyData), vs = [v, u] ∧ Dp K H v d ∧ Dp K H u d ∧ DLe n d ∧ ∀ H', Same H H' → Q (.bl true) H'
def sp_same_sub (K : PySem.W.Frag) : Nat → Sp
  | 0 => fun _ _ _ _ => False
  | m + 1 => sp_law_same K m
theorem walk_zipT {K : PySem.W.Frag} {a b : Addr} {xs ys : List V} {n : Nat} (hn : n = min xs.length ys.length) : Walk (RZ.ItzT K a b) n (fun H => SqT K H a xs ∧ SqT K H b ys) (YPair (fun i => xs[i]?) (fun i => ys[i]?)) := by
  subst hn
  refine ⟨fun i _ hi q => ?_, fun _ q => ⟨xs, ys, q.1, q.2, by omega⟩, fun i H v H' _ q y => ?_⟩
  · have h1 : i < xs.length := by omega
    have h2 : i < ys.length := by omega
    exact ⟨xs, ys, xs[i], ys[i], q.1, q.2, by simp [h1], by simp [h2]⟩
  · obtain ⟨T, x, z, h1, h2, h3, h4, h5⟩ := y
    exact ⟨T, x, z, h1, h2, h3, h4 xs q.1, h5 ys q.2⟩
theorem flat_trues (n : Nat) : ((List.range n).map fun _ => V.bl true).all flatV = true := by
  rw [List.all_map]; exact List.all_eq_true.mpr fun _ _ => rfl
theorem in_trues (n : Nat) : inV (.bl false) ((List.range n).map fun _ => V.bl true) = false := by
  unfold inV
  rw [List.any_map, List.any_eq_false]
  intro i _
  show ¬ (eqV (.bl true) (.bl false)) = true
  decide
/-- ints as data -/
theorem dp_ints {K : PySem.W.Frag} {H : Hp} : ∀ ns : List Int, DpAll K H (ns.map V.int) (ns.map PyData.int)
  | [] => .nil
  | n :: r => .cons (.int n) (dp_ints r)
theorem dp_lst {K : PySem.W.Frag} {H : Hp} {a : Addr} {ns : List Int} (h : H a = some (.lst (ns.map V.int))) : Dp K H (.ref a) (.list (ns.map PyData.int)) := .lst (SqL.of h) (dp_ints ns)
theorem dle_ints {ns : List Int} (h : ns.length ≤ 100000) (n : Nat) : DLe (n + 1) (.list (ns.map PyData.int)) := by
  refine ⟨by rw [List.length_map]; exact h, fun d hd => ?_⟩
  obtain ⟨i, _, rfl⟩ := List.mem_map.mp hd
  cases n <;> exact True.intro
end Fld
/-! The law's own def where what runs around it is known: no repr, no == is under way (Around.guards), so that repr of data may be walked in it. -/
namespace Fld
open PySem PySem.Spec PyProof.Rows L2
/-- a def as it is called from outside -/
structure TopOk (P : Program) (w : World) (K : PySem.W.Frag) (mg : Str → Option Value) (k : Nat) (f : Addr) (fd : FuncData) (ps : List Str) (sp : Sp) : Prop where
  len : ∀ vs H Q E, sp vs H Q E → vs.length = ps.length
  run : ∀ (base : Heap) (s : Shared) (H : Hp) (args : Args) (us : List Value) (vs : List V) (Q : VK) (E : XK), Room k callerA → Env0 P w K mg base callerA [] s H → BindsTo s fd args (ps.zip us) → Vals vs us → sp vs H Q E →
    codeAny (model P w) callerA (.call (.ref f) args) (CR CX0 [] P w H s Q E) s
/-- its body as a term of rules and the term's reading, the guards told -/
theorem top_of {P : Program} {w : World} {K : PySem.W.Frag} {mg : Str → Option Value} {x qual : Str} {st : Stmt} {f : Addr} {fd : FuncData} {N ps : List Str} {k : Nat} {sp : Sp} (F : Fun K x qual st f fd) (S : FnScope N ps (defScope st))
    (len : ∀ vs H Q E, sp vs H Q E → vs.length = ps.length)
    (hbody : ∀ (base : Heap) (cdv : Value) (A : Around) (outer : List Env) (s : Shared) (H : Hp) (vs : List V) (Q : VK) (E : XK), A.guards = some [] → Room k (A.deeper (envOfC qual (defScope st) s.heap.objs.size f cdv)) → sp vs H Q E →
      ∃ t, PSs (cxOf CX0 P w K mg base N qual (defScope st) f cdv A outer s H E).nox (defBody st) t ∧ t { nx := fun _ H' => Q .non H', rt := Q } (start N vs) H) :
    TopOk P w K mg (k + 1) f fd ps sp := by
  obtain ⟨oc, od, kV, doc, pm, an, cdv, ct, osl, rfl, lk, hcd⟩ := F.ex
  refine ⟨len, ?_⟩
  intro base s H args us vs Q E hr e0 hb r hsp
  have old := fun b o (e : base.get? b = some o) => (e0.bs b o e).1
  have KX : K.In s.heap := e0.mod.kin.keeps old
  have kinds : ∀ y ∈ ps.zip us, (defScope st).names.lookup y.1 = some .local ∨ ((defScope st).names.lookup y.1 = some .cell ∧ ((cellsFrom (s.heap.objs.size + 1) (defScope st).names []).lookup y.1).isSome = true) := by
    rintro ⟨n, v⟩ hy
    have hp := S.par n (List.of_mem_zip hy).1
    exact hp.elim Or.inl fun q => Or.inr ⟨q, PySem.W.cellsFrom_some _ _ _ (Or.inl q)⟩
  refine codeAny_call_function hr.depth (KX _ _ lk) rfl S.co S.gen rfl (PySem.W.codeRec_of KX hcd) (hb _ _ _ _ (wpAny_newFunctionEnv_cells S.kind kinds ?_))
  intro env he s1 x
  cases he
  refine ⟨(e0.mod.nolimit.keeps old).keeps x.toInCall.keep, codeAny_func ?_⟩
  obtain ⟨t, ht, hq⟩ := hbody base cdv callerA [] s H vs Q E rfl (hr.deeper _) hsp
  have I := inv_start (CX := CX0) (E := E) S hr.hd e0 (len _ _ _ _ hsp) r x
  refine wpAny_mono (ht.nox.run [] s1 (start N vs) H _ I hq) ?_ fun _ _ z => z
  intro fl s' hs
  match fl, hs with
  | .ret u, ⟨v, _, H', J, rv, q⟩ => exact ⟨v, H', J.os, J.bare, J.base, J.hok, rv, q⟩
  | .next, ⟨_, H', J, q⟩ => exact ⟨V.non, H', J.os, J.bare, J.base, J.hok, rfl, q⟩
  | .brk, ⟨_, _, _, q⟩ => exact q.elim
  | .cont, ⟨_, _, _, q⟩ => exact q.elim
/-- the abstract heap at the law's entry: the script alone, locked, or nothing where it is one of the module's own -/
theorem entry_heap {P : Program} {w : World} {K : PySem.W.Frag} {s : Shared} {a : Addr} {vs : List Value} {ns : List Int} (KX : K.In s.heap) (ha : s.heap.get? a = some { cls := .type "list", data := .seq vs.toArray }) (hi : IntsAre vs ns) (hl : ns.length ≤ sizeLine) :
    ∃ H : Hp, Only H ∧ SqL K H a (ns.map V.int) ∧ HOk P w H s.heap ∧ (∀ b, H b ≠ none → b = a) ∧ (H a ≠ none → K.lookup a = none) := by
  have rv := vals_of_ints hi
  cases hk : K.lookup a with
  | some o =>
    have e := (KX a o hk).symm.trans ha
    cases e
    refine ⟨fun _ => none, fun _ => .inl rfl, .inr ⟨_, vs.toArray, _, hk, rfl, rfl, rfl, ?_, by simpa using rv⟩, fun b u z => (nomatch z), fun b z => absurd rfl z, fun z => absurd rfl z⟩
    rw [List.size_toArray, hi.length]
    exact hl
  | none =>
    let H : Hp := fun b => if b = a then some (.frz { cls := .type "list", data := .seq vs.toArray } (.lst (ns.map V.int))) else none
    have at_a : H a = some (.frz { cls := .type "list", data := .seq vs.toArray } (.lst (ns.map V.int))) := if_pos rfl
    have off : ∀ b, b ≠ a → H b = none := fun b hb => if_neg hb
    refine ⟨H, fun b => ?_, .inl (.inr ⟨_, at_a⟩), fun b u z => ?_, fun b z => ?_, fun _ => rfl⟩
    · by_cases hb : b = a
      · subst hb; exact .inr ⟨_, _, at_a⟩
      · exact .inl (off b hb)
    · by_cases hb : b = a
      · subst hb
        rw [at_a] at z
        cases z
        exact ⟨ha, by rw [List.length_map]; exact hl, vs, _, rv, ha⟩
      · rw [off b hb] at z
        cases z
    · by_cases hb : b = a
      · exact hb
      · exact absurd (off b hb) z
theorem top_call {P : Program} {w : World} {K : PySem.W.Frag} {mg mb : Str → Option Value} {k : Nat} {fa a : Addr} {fd : FuncData} {x : Str} {sp : Sp} {s : Shared} {vs : List Value} {ns : List Int}
    (KX : K.In s.heap) (hns : s.heap.Ns mainGlobals mg) (hb : s.heap.Ns builtinsNs mb) (hbb : ∀ x : Str, x ≠ "__name__" → mb x = bootBuiltins x) (hlim : s.heap.NoLimit) (hg : s.gens = #[])
    (ha : s.heap.get? a = some { cls := .type "list", data := .seq vs.toArray }) (hi : IntsAre vs ns) (hl : ns.length ≤ sizeLine) (hr : Room k callerA) (F : TopOk P w K mg k fa fd [x] sp) (hbind : ∀ (s : Shared) (u : Value), BindsTo s fd ⟨[u], []⟩ [(x, u)])
    (hsp : ∀ H : Hp, Only H → SqL K H a (ns.map V.int) → sp [.ref a] H (fun v _ => v = .bl true) fun _ _ _ => False) :
    codeAny (model P w) callerA (.call (.ref fa) ⟨[.ref a], []⟩) (fun r s' => r = .ok (.ret (.bool true)) ∧ OldK s.heap s'.heap ∧ s'.os = s.os ∧ AllBare s'.gens) s := by
  obtain ⟨H, hO, hS, hok, hA, hK⟩ := entry_heap (P := P) (w := w) KX ha hi hl
  have other : ∀ {b : Addr} {o : Obj}, s.heap.get? b = some o → (b = a → False) → (hidT s.heap H).get? b = some o := fun {b o} e n => hidT_get e (by
    cases q : H b with
    | none => rfl
    | some u => exact (n (hA b (by rw [q]; simp))).elim)
  have noD : ∀ {b : Addr} {m : Str → Option Value}, s.heap.Ns b m → (hidT s.heap H).Ns b m := fun {b m} ⟨o, es, ep, e, d, r⟩ => ⟨o, es, ep, other e (fun z => by
    rw [z, ha] at e; cases e; cases d), d, r⟩
  have inK : K.In (hidT s.heap H) := fun b o e => hidT_get (KX b o e) (by
    cases q : H b with
    | none => rfl
    | some u =>
      have z := hA b (by rw [q]; simp)
      subst z
      rw [hK (by rw [q]; simp)] at e
      cases e)
  have M : Mod K mg (hidT s.heap H) := ⟨inK, noD hns, ⟨mb, noD hb, hbb⟩, let ⟨mc, h1, h2⟩ := hlim; ⟨mc, noD h1, h2⟩⟩
  have none_in : ∀ b : Addr, b ∉ frs [] := fun b z => (nomatch (show b ∈ ([] : List Addr) from z))
  have e0 : Env0 P w K mg (hidT s.heap H) callerA [] s H := { frames := rfl, mod := M, bs := fun b o e => of_hidT e, bsz := Nat.le_of_eq (hidT_size _ _), funs := trivial, frf := fun b z => (none_in b z).elim, hok := hok, bare := .of_eq hg }
  refine codeAny_mono (F.run _ s H ⟨[.ref a], []⟩ [.ref a] [.ref a] _ _ hr e0 (hbind s (.ref a)) (.cons rfl .nil) (hsp H hO hS)) ?_
  intro r s' h
  match r, h with
  | .ok (.ret u), ⟨v, H', os, bare, un, hok', rv, q⟩ =>
    cases (show v = .bl true from q)
    cases (show u = Value.bool true from rv)
    refine ⟨rfl, OldK.of_keep fun b o e => ?_, os, bare⟩
    rcases hO b with z | ⟨ob, xs, z⟩
    · exact un.keep b o e z (none_in b) (by simp)
    · have e1 := (hok b _ z).1
      rw [e] at e1
      cases e1
      exact (hok' b _ (un.frzs b _ _ z)).1
theorem walk_top {l : PySem.W.OpenLaw} {n k : Nat} {q : Program} {loose : List Str} {XP : (Str → Option Value) → Heap → Prop} {YP : World → Heap → Prop} {d : DefRec} {K : Params → PySem.W.Frag} {sp : World → Sp} {x : Str}
    (hn : l.most = some n) (hn2 : n ≤ sizeLine) (hdf : d.params.defaults = []) (hr : Room k callerA)
    (hY : ∀ (w : World) (h : Heap), YP w h → (K w.params).In h)
    (F : ∀ (w : World) (mg : Str → Option Value) (fa : Addr) (h : Heap), (K w.params).In h → h.Ns mainGlobals mg → mg d.name = some (.ref fa) →
      ∃ fd : FuncData, (∀ (s : Shared) (u : Value), BindsTo s fd ⟨[u], []⟩ [(x, u)]) ∧ TopOk l.prog w (K w.params) mg k fa fd [x] (sp w))
    (hsp : ∀ (w : World) (H : Hp) (a : Addr) (ns : List Int), ns.length ≤ n → Only H → SqL (K w.params) H a (ns.map V.int) → sp w [.ref a] H (fun v _ => v = .bl true) fun _ _ _ => False) :
    PySem.W.WalkO q loose XP YP l.row.toRowW d [] (fun f vs => PySem.call f vs) := by
  refine Att.attach_call hn hdf ?_
  intro w s₀ s₁ mg mb fa o pm cd doc a vs ns G Y ho hd hcd hmg hobj hints hlen hg
  obtain ⟨fd, hbi, hF⟩ := F w mg fa _ (hY w _ Y) G.T.g hmg
  exact top_call (hY w _ Y) G.T.g G.T.b G.T.builtins G.T.nolimit hg hobj hints (Nat.le_trans hlen hn2) hr hF hbi fun H hO hS => hsp w H a ns hlen hO hS
end Fld
/-! repr of data: how long its text may be, and the rule of the call. -/
namespace Fld
open PySem PySem.Spec PyProof.Rows L2
mutual
def okD : PyData → Bool
  | .none => true
  | .bool _ => true
  | .int i => decide (i.natAbs < 2 ^ 1000)
  | .str x => x.cps.toList.all fun c => decide (c < 4294967296)
  | .list xs => okAll xs
  | .tuple xs => okAll xs
  | .dict _ => false
def okAll : List PyData → Bool
  | [] => true
  | x :: xs => okD x && okAll xs
end
mutual
/-- no less than the length of its text -/
def wD : PyData → Nat
  | .none => 4
  | .bool _ => 5
  | .int _ => 1010
  | .str x => 10 * x.length + 2
  | .list xs => wAll xs + 4
  | .tuple xs => wAll xs + 4
  | .dict _ => 0
def wAll : List PyData → Nat
  | [] => 0
  | x :: xs => wD x + 2 + wAll xs
end
theorem textFrom_le : ∀ (ts : List Str) (k : Nat) (acc : Str), (textFrom k acc ts).length ≤ acc.length + piled ts
  | [], k, acc => by show acc.length ≤ _; omega
  | t :: r, k, acc => by
    have ih := textFrom_le r (k + 1) (acc ++ (if k > 0 then ", " else "" : String) ++ t)
    have e : (acc ++ (if k > 0 then ", " else "" : String) ++ t).length ≤ acc.length + 2 + t.length := by
      rw [strLen_append, strLen_append]
      split
      · exact Nat.le_refl _
      · show acc.length + 0 + t.length ≤ _; omega
    have e2 : piled (t :: r) = t.length + 2 + piled r := by unfold piled; rw [List.map_cons, List.sum_cons]
    show (textFrom (k + 1) _ r).length ≤ _
    omega
theorem listText_le (ts : List Str) : (listText ts).length ≤ piled ts + 4 := by
  unfold listText
  rw [strLen_append]
  have h := textFrom_le ts 0 "["
  have e1 : ((("[" : String) : Str)).length = 1 := rfl
  have e2 : ((("]" : String) : Str)).length = 1 := rfl
  omega
theorem tupleText_le (ts : List Str) : (tupleText ts).length ≤ piled ts + 4 := by
  unfold tupleText
  rw [strLen_append, strLen_append]
  have e1 : ((("(" : String) : Str)).length = 1 := rfl
  have e3 : (((if ts.length == 1 then ",)" else ")" : String) : Str)).length ≤ 2 := by split <;> decide
  by_cases h : ts = []
  · subst h
    have e0 : (Str.join ", " []).length = 0 := rfl
    omega
  · have := join_length_add ts h
    omega
theorem toString_le {i : Int} (h : i.natAbs < 2 ^ 1000) : (Str.ofString (toString i)).length ≤ 1010 := by
  have h1 : (Nat.repr i.natAbs).length ≤ 1000 := nat_repr_length_le (by decide) h
  have e : ∀ z : String, (Str.ofString z).length = z.length := fun z => by
    rw [TL.len_tl, TL.tl_ofString, List.length_map]
    rfl
  rw [e]
  cases i with
  | ofNat n =>
    have : (toString (Int.ofNat n)) = Nat.repr n := rfl
    rw [this]
    have h2 : (Nat.repr n).length ≤ 1000 := h1
    omega
  | negSucc n =>
    have : (toString (Int.negSucc n)) = "-" ++ Nat.repr (n + 1) := rfl
    rw [this, String.length_append]
    have h2 : (Nat.repr (n + 1)).length ≤ 1000 := h1
    have h3 : ("-" : String).length = 1 := rfl
    omega
theorem log_le {n : Nat} (h : n < 2 ^ 1000) : n.log2 < 1920 := by
  by_cases e : n = 0
  · subst e; decide
  · exact Nat.lt_trans ((Nat.log2_lt e).mpr h) (by decide)
mutual
theorem shown_le : ∀ d : PyData, okD d = true → d.shown.length ≤ wD d ∧ d.showable = true ∧ d.hasDict = false
  | .none, _ => ⟨by decide, rfl, rfl⟩
  | .bool b, _ => ⟨by cases b <;> decide, rfl, rfl⟩
  | .int i, h => by
    have h' : i.natAbs < 2 ^ 1000 := of_decide_eq_true (show decide _ = true from h)
    exact ⟨toString_le h', decide_eq_true (log_le h'), rfl⟩
  | .str x, h => by
    refine ⟨StrLaws.reprText_len x fun c hc => ?_, rfl, rfl⟩
    have h' : (x.cps.toList.all fun c => decide (c < 4294967296)) = true := h
    have := of_decide_eq_true (List.all_eq_true.mp h' c hc)
    have e : (16 : Nat) ^ 8 = 4294967296 := by decide
    omega
  | .list xs, h => by
    have ih := shownAll_le xs h
    refine ⟨?_, by rw [PyData.showable]; exact ih.2.1, by rw [PyData.hasDict]; exact ih.2.2⟩
    rw [PyData.shown, wD]
    have := listText_le (PyData.shownAll xs)
    omega
  | .tuple xs, h => by
    have ih := shownAll_le xs h
    refine ⟨?_, by rw [PyData.showable]; exact ih.2.1, by rw [PyData.hasDict]; exact ih.2.2⟩
    rw [PyData.shown, wD]
    have := tupleText_le (PyData.shownAll xs)
    omega
  | .dict _, h => by cases h
theorem shownAll_le : ∀ ds : List PyData, okAll ds = true → piled (PyData.shownAll ds) ≤ wAll ds ∧ PyData.showableAll ds = true ∧ PyData.hasDictAll ds = false
  | [], _ => ⟨by rw [PyData.shownAll]; exact Nat.le_refl _, rfl, rfl⟩
  | d :: ds, h => by
    have h' : (okD d && okAll ds) = true := by rw [okAll] at h; exact h
    rw [Bool.and_eq_true] at h'
    have i1 := shown_le d h'.1
    have i2 := shownAll_le ds h'.2
    refine ⟨?_, by rw [PyData.showableAll, i1.2.1, i2.2.1]; rfl, by rw [PyData.hasDictAll, i1.2.2, i2.2.2]; rfl⟩
    rw [PyData.shownAll, wAll]
    have e2 : piled (d.shown :: PyData.shownAll ds) = d.shown.length + 2 + piled (PyData.shownAll ds) := by unfold piled; rw [List.map_cons, List.sum_cons]
    omega
end
mutual
theorem dle_depth : ∀ (d : PyData) (n : Nat), DLe n d → d.depth ≤ n
  | .none, _, _ => by rw [PyData.depth]; omega
  | .bool _, _, _ => by rw [PyData.depth]; omega
  | .int _, _, _ => by rw [PyData.depth]; omega
  | .str _, _, _ => by rw [PyData.depth]; omega
  | .list xs, 0, h => (by simp [DLe] at h)
  | .list xs, n + 1, h => by
    have h' : xs.length ≤ 100000 ∧ ∀ d ∈ xs, DLe n d := by simpa [DLe] using h
    rw [PyData.depth]
    have := dle_depthAll xs n h'.2
    omega
  | .tuple xs, 0, h => (by simp [DLe] at h)
  | .tuple xs, n + 1, h => by
    have h' : xs.length ≤ 100000 ∧ ∀ d ∈ xs, DLe n d := by simpa [DLe] using h
    rw [PyData.depth]
    have := dle_depthAll xs n h'.2
    omega
  | .dict _, n, h => by cases n <;> simp [DLe] at h
theorem dle_depthAll : ∀ (ds : List PyData) (n : Nat), (∀ d ∈ ds, DLe n d) → PyData.depthAll ds ≤ n
  | [], _, _ => by rw [PyData.depthAll]; omega
  | d :: ds, n, h => by
    rw [PyData.depthAll]
    have h1 := dle_depth d n (h d (List.mem_cons_self ..))
    have h2 := dle_depthAll ds n fun e he => h e (List.mem_cons_of_mem _ he)
    omega
end
def rRepr (K : PySem.W.Frag) : List V → Hp → VK → Prop := fun xs H Q => ∃ (x : V) (d : PyData) (n : Nat), xs = [x] ∧ Dp K H x d ∧ okD d = true ∧ DLe n d ∧ n ≤ 40 ∧ wD d ≤ 10000000 ∧ Q (.str d.shown) H
theorem call_repr {X : Cx} (hg : X.A.guards = some []) (hu : X.A.units + 64 < cLine) : CallR X (.builtin "repr") (rRepr X.K) := by
  intro pins s σ H xs us Q I r h
  obtain ⟨x, d, n, rfl, hd, ok, hn, hn2, hw, q⟩ := h
  obtain ⟨u, rfl, ru⟩ := vals1 r
  obtain ⟨hl, hs, hnd⟩ := shown_le d ok
  have hsz : d.shown.length ≤ sizeLine := by rw [sizeLine_eq]; omega
  obtain ⟨as, rd⟩ := Dp.reads I d x u hd ru
  have hdep := dle_depth d n hn
  cases hd with
  | non =>
    cases ru
    exact P.repr_of_none ⟨.str _, H, I.tok _, ⟨_, rfl⟩, q⟩
  | bl b =>
    cases ru
    exact P.repr_of_bool ⟨.str _, H, I.tok _, ⟨_, rfl⟩, q⟩
  | int i =>
    obtain ⟨t, rfl⟩ := ru
    have h' : i.natAbs < 2 ^ 1000 := of_decide_eq_true (show decide _ = true from ok)
    exact P.repr_of_int (log_le h') ⟨.str _, H, I.tok _, ⟨_, rfl⟩, q⟩
  | str y =>
    obtain ⟨t, rfl⟩ := ru
    exact P.repr_of_str ⟨.str _, H, I.tok _, ⟨_, rfl⟩, q⟩ hsz
  | lst _ _ =>
    cases ru
    exact repr_of_reads' rd hs (PyData.noDict_hsm hnd) hg (by omega) (fun _ _ e => e) (fun h' tu tk hk => ⟨.str _, H, I.kept hk, ⟨_, rfl⟩, q⟩) hsz
  | tup _ _ =>
    cases ru
    exact repr_of_reads' rd hs (PyData.noDict_hsm hnd) hg (by omega) (fun _ _ e => e) (fun h' tu tk hk => ⟨.str _, H, I.kept hk, ⟨_, rfl⟩, q⟩) hsz
end Fld
/-! values of any kind, dicts with int and text keys among them: their data, what isinstance, repr and == with a text say of them -/
namespace Fld
open PySem PySem.Spec PyProof.Rows L2
def ofK : Key → PyData
  | .inl i => .int i
  | .inr x => .str x
mutual
inductive Dv (K : PySem.W.Frag) (H : Hp) : V → PyData → Prop
  | non : Dv K H .non .none
  | bl (b : Bool) : Dv K H (.bl b) (.bool b)
  | int (i : Int) : Dv K H (.int i) (.int i)
  | str (x : Str) : Dv K H (.str x) (.str x)
  | lst {a : Addr} {xs : List V} {ds : List PyData} : SqL K H a xs → DvAll K H xs ds → Dv K H (.ref a) (.list ds)
  | tup {a : Addr} {xs : List V} {ds : List PyData} : SqT K H a xs → DvAll K H xs ds → Dv K H (.ref a) (.tuple ds)
  | dic {a : Addr} {kvs : List (Key × V)} {ps : List (PyData × PyData)} : H a = some (.dK kvs) → kvs.map (fun p => ofK p.1) = ps.map (·.1) → DvAll K H (kvs.map (·.2)) (ps.map (·.2)) → Dv K H (.ref a) (.dict ps)
inductive DvAll (K : PySem.W.Frag) (H : Hp) : List V → List PyData → Prop
  | nil : DvAll K H [] []
  | cons {v : V} {vs : List V} {d : PyData} {ds : List PyData} : Dv K H v d → DvAll K H vs ds → DvAll K H (v :: vs) (d :: ds)
end
mutual
theorem Dv.keep {K : PySem.W.Frag} {H H' : Hp} (s : Same H H') : ∀ {v : V} {d : PyData}, Dv K H v d → Dv K H' v d
  | _, _, .non => .non
  | _, _, .bl b => .bl b
  | _, _, .int i => .int i
  | _, _, .str x => .str x
  | _, _, .lst h a => .lst (s.seq h) (DvAll.keep s a)
  | _, _, .tup h a => .tup (s.tup h) (DvAll.keep s a)
  | _, _, .dic h e a => .dic (s _ _ h) e (DvAll.keep s a)
theorem DvAll.keep {K : PySem.W.Frag} {H H' : Hp} (s : Same H H') : ∀ {vs : List V} {ds : List PyData}, DvAll K H vs ds → DvAll K H' vs ds
  | _, _, .nil => .nil
  | _, _, .cons h t => .cons (Dv.keep s h) (DvAll.keep s t)
end
mutual
theorem Dv.ofDp {K : PySem.W.Frag} {H : Hp} : ∀ {v : V} {d : PyData}, Dp K H v d → Dv K H v d
  | _, _, .non => .non
  | _, _, .bl b => .bl b
  | _, _, .int i => .int i
  | _, _, .str x => .str x
  | _, _, .lst h a => .lst h (DvAll.ofDp a)
  | _, _, .tup h a => .tup h (DvAll.ofDp a)
theorem DvAll.ofDp {K : PySem.W.Frag} {H : Hp} : ∀ {vs : List V} {ds : List PyData}, DpAll K H vs ds → DvAll K H vs ds
  | _, _, .nil => .nil
  | _, _, .cons h t => .cons (Dv.ofDp h) (DvAll.ofDp t)
end
/-! no dict within -/
mutual
def noDict : PyData → Bool
  | .list xs => noDictAll xs
  | .tuple xs => noDictAll xs
  | .dict _ => false
  | _ => true
def noDictAll : List PyData → Bool
  | [] => true
  | x :: xs => noDict x && noDictAll xs
end
mutual
theorem Dv.dp {K : PySem.W.Frag} {H : Hp} : ∀ {v : V} {d : PyData}, Dv K H v d → noDict d = true → Dp K H v d
  | _, _, .non, _ => .non
  | _, _, .bl b, _ => .bl b
  | _, _, .int i, _ => .int i
  | _, _, .str x, _ => .str x
  | _, _, .lst h a, n => .lst h (DvAll.dp a (by simpa [noDict] using n))
  | _, _, .tup h a, n => .tup h (DvAll.dp a (by simpa [noDict] using n))
  | _, _, .dic h e a, n => by simp [noDict] at n
theorem DvAll.dp {K : PySem.W.Frag} {H : Hp} : ∀ {vs : List V} {ds : List PyData}, DvAll K H vs ds → noDictAll ds = true → DpAll K H vs ds
  | _, _, .nil, _ => .nil
  | _, _, .cons h t, n => by
    rw [noDictAll, Bool.and_eq_true] at n
    exact .cons (Dv.dp h n.1) (DvAll.dp t n.2)
end
def tyD : PyData → String
  | .none => "NoneType"
  | .bool _ => "bool"
  | .int _ => "int"
  | .str _ => "str"
  | .list _ => "list"
  | .tuple _ => "tuple"
  | .dict _ => "dict"
theorem Dv.kind {K : PySem.W.Frag} {H : Hp} {v : V} {d : PyData} (h : Dv K H v d) : Kind K H v (tyD d) := by
  cases h with
  | non => exact .non
  | bl b => exact .bl b
  | int i => exact .int i
  | str x => exact .str x
  | lst h a => exact .lst h
  | tup h a => exact .tup h
  | dic h e a => exact .dK h
theorem DvAll.len {K : PySem.W.Frag} {H : Hp} : ∀ {xs : List V} {ds : List PyData}, DvAll K H xs ds → xs.length = ds.length
  | _, _, .nil => rfl
  | _, _, .cons _ t => by rw [List.length_cons, List.length_cons, DvAll.len t]
theorem DvAll.at {K : PySem.W.Frag} {H : Hp} : ∀ {xs : List V} {ds : List PyData} {i : Nat} {x : V}, DvAll K H xs ds → xs[i]? = some x → ∃ d, ds[i]? = some d ∧ Dv K H x d
  | _, _, _, _, .nil, e => by simp at e
  | _, _, 0, _, .cons h _, e => by simp at e; subst e; exact ⟨_, rfl, h⟩
  | _, _, i + 1, x, .cons _ t, e => by
    obtain ⟨d, h1, h2⟩ := DvAll.at (i := i) (x := x) t (by simpa using e)
    exact ⟨d, by simpa using h1, h2⟩
theorem DvAll.at' {K : PySem.W.Frag} {H : Hp} : ∀ {xs : List V} {ds : List PyData} {i : Nat} {d : PyData}, DvAll K H xs ds → ds[i]? = some d → ∃ x, xs[i]? = some x ∧ Dv K H x d
  | _, _, _, _, .nil, e => by simp at e
  | _, _, 0, _, .cons h _, e => by simp at e; subst e; exact ⟨_, rfl, h⟩
  | _, _, i + 1, x, .cons _ t, e => by
    obtain ⟨d, h1, h2⟩ := DvAll.at' (i := i) (d := x) t (by simpa using e)
    exact ⟨d, by simpa using h1, h2⟩
theorem DvAll.app {K : PySem.W.Frag} {H : Hp} : ∀ {xs ys : List V} {ds es : List PyData}, DvAll K H xs ds → DvAll K H ys es → DvAll K H (xs ++ ys) (ds ++ es)
  | _, _, _, _, .nil, s => s
  | _, _, _, _, .cons r t, s => .cons r (DvAll.app t s)
theorem DvAll.take {K : PySem.W.Frag} {H : Hp} : ∀ {xs : List V} {ds : List PyData} (n : Nat), DvAll K H xs ds → DvAll K H (xs.take n) (ds.take n)
  | _, _, 0, _ => .nil
  | _, _, _ + 1, .nil => .nil
  | _, _, n + 1, .cons r t => .cons r (DvAll.take n t)
theorem DvAll.drop {K : PySem.W.Frag} {H : Hp} : ∀ {xs : List V} {ds : List PyData} (n : Nat), DvAll K H xs ds → DvAll K H (xs.drop n) (ds.drop n)
  | _, _, 0, r => r
  | _, _, _ + 1, .nil => .nil
  | _, _, n + 1, .cons _ t => DvAll.drop n t
theorem DvAll.set {K : PySem.W.Frag} {H : Hp} {x : V} {d : PyData} (r : Dv K H x d) : ∀ {xs : List V} {ds : List PyData} (i : Nat), DvAll K H xs ds → DvAll K H (xs.set i x) (ds.set i d)
  | _, _, _, .nil => .nil
  | _, _, 0, .cons _ t => .cons r t
  | _, _, i + 1, .cons q t => .cons q (DvAll.set r i t)
/-! ### what it reads as -/
theorem pairs_reads {P : Program} {w : World} {h : Heap} : ∀ {es : List DictEntry} {vs : List (Key × Value)}, Pairs (mixKind P w) es vs → (∃ as, ReadsAll h (es.map (·.key)) (vs.map fun p => ofK p.1) as ∧ as = []) ∧ es.map (·.val) = vs.map (·.2)
  | _, _, .nil => ⟨⟨_, .nil, rfl⟩, rfl⟩
  | _, _, .cons (e := e) (kv := kv) hk hv t => by
    obtain ⟨⟨as, h1, h0⟩, h2⟩ := pairs_reads (h := h) t
    refine ⟨?_, by rw [List.map_cons, List.map_cons, h2, hv]⟩
    rcases keyIs_shape (k := kv.1) (v := e.key) hk with ⟨i, u, e1, e2⟩ | ⟨x, u, e1, e2⟩
    · refine ⟨_, ReadsAll.cons (as := []) (bs := as) ?_ h1, by rw [h0]; rfl⟩
      show Reads h e.key (ofK kv.1) []
      rw [e1, e2]
      exact Reads.int i u
    · refine ⟨_, ReadsAll.cons (as := []) (bs := as) ?_ h1, by rw [h0]; rfl⟩
      show Reads h e.key (ofK kv.1) []
      rw [e1, e2]
      exact Reads.str x u
theorem kv_keys {kvs : List (Key × V)} {vs : List (Key × Value)} (r : KV kvs vs) : vs.map (fun p => ofK p.1) = kvs.map fun p => ofK p.1 := by
  have h := r.keys
  have e1 : vs.map (fun p => ofK p.1) = (vs.map (·.1)).map ofK := by rw [List.map_map]; rfl
  have e2 : kvs.map (fun p => ofK p.1) = (kvs.map (·.1)).map ofK := by rw [List.map_map]; rfl
  rw [e1, e2, h]
theorem kv_vals : ∀ {kvs : List (Key × V)} {vs : List (Key × Value)}, KV kvs vs → Vals (kvs.map (·.2)) (vs.map (·.2))
  | _, _, .nil => .nil
  | _, _, .cons r t => .cons r.2 (kv_vals t)
theorem sys_tracked {X : Cx} {pins : List (Addr × Obj)} {σ : L2.St} {H : Hp} {s : Shared} (I : Inv X pins σ H s) {a : Addr} {kvs : List (Key × V)} (e : H a = some (.dK kvs)) : (a == sysModules) = false := (dk_of I.hok e).2.1
mutual
theorem Dv.reads {X : Cx} {pins : List (Addr × Obj)} {σ : L2.St} {H : Hp} {s : Shared} (I : Inv X pins σ H s) : ∀ {d : PyData} {v : V} {u : Value}, Dv X.K H v d → RelV v u → ∃ as, Reads s.heap u d as
  | _, _, _, .non, r => by cases r; exact ⟨_, Reads.none⟩
  | _, _, _, .bl b, r => by cases r; exact ⟨_, Reads.bool b⟩
  | _, _, _, .int i, r => by obtain ⟨t, rfl⟩ := r; exact ⟨_, Reads.int i t⟩
  | _, _, _, .str x, r => by obtain ⟨t, rfl⟩ := r; exact ⟨_, Reads.str x t⟩
  | _, _, _, .lst hs ha, r => by
    cases r
    obtain ⟨its, rv, ⟨o, n, ho, hc, _, hd⟩, _⟩ := I.list hs
    obtain ⟨as, hr⟩ := DvAll.reads I ha rv
    exact ⟨_, Reads.list ho hc hd hr⟩
  | _, _, _, .tup hs ha, r => by
    cases r
    obtain ⟨its, rv, ⟨o, ho, hc, n, hd⟩, _⟩ := I.tuple hs
    obtain ⟨as, hr⟩ := DvAll.reads I ha rv
    exact ⟨_, Reads.tuple ho hc hd hr⟩
  | .dict ps, _, _, .dic (kvs := kvs) hs he ha, r => by
    cases r
    obtain ⟨_, hy, vs, kv, ⟨o, es, ep, ho, ex, hd, _, pr, _⟩⟩ := dk_of I.hok hs
    obtain ⟨⟨as, h1, n1⟩, h2⟩ := pairs_reads (h := s.heap) pr
    obtain ⟨bs, h3⟩ := DvAll.reads I ha (kv_vals kv)
    rw [kv_keys kv, he] at h1
    exact ⟨_, Reads.dict ho ex.1 hd h1 (by rw [h2]; exact h3)⟩
theorem DvAll.reads {X : Cx} {pins : List (Addr × Obj)} {σ : L2.St} {H : Hp} {s : Shared} (I : Inv X pins σ H s) : ∀ {ds : List PyData} {vs : List V} {us : List Value}, DvAll X.K H vs ds → Vals vs us → ∃ as, ReadsAll s.heap us ds as
  | _, _, _, .nil, r => by cases r; exact ⟨_, ReadsAll.nil⟩
  | _, _, _, .cons h1 h2, r => by
    cases r with
    | cons r1 r2 =>
      obtain ⟨as, q1⟩ := Dv.reads I h1 r1
      obtain ⟨bs, q2⟩ := DvAll.reads I h2 r2
      exact ⟨_, ReadsAll.cons q1 q2⟩
end
/-- the text of a value by its parts, none of which is deeper than n -/
def Shw (P : Program) (w : World) (h : Heap) (n : Nat) (u : Value) (t : Str) : Prop := ∃ bs, ReadAtMost h n bs ∧ ReprK P w bs h n u t
def ShwAll (P : Program) (w : World) (h : Heap) (n : Nat) (us : List Value) (ts : List Str) : Prop := ∃ bs, ReadAtMost h n bs ∧ ReprAllK P w bs h n us ts
theorem shw_is {P : Program} {w : World} {h : Heap} {n : Nat} {u : Value} {t : Str} (r : ReprIs P w u t) : Shw P w h n u t := ⟨[], fun _ z => (nomatch z), .of_is r _ _ _⟩
theorem ShwAll.mono {P : Program} {w : World} {h : Heap} {n m : Nat} {us : List Value} {ts : List Str} (l : n ≤ m) : ShwAll P w h n us ts → ShwAll P w h m us ts := fun ⟨bs, a, b⟩ => ⟨bs, a.mono l, b.more_le (fun _ z => z) l⟩
theorem ShwAll.cons {P : Program} {w : World} {h : Heap} {n m : Nat} {u : Value} {t : Str} {us : List Value} {ts : List Str} : Shw P w h n u t → ShwAll P w h m us ts → ShwAll P w h (max n m) (u :: us) (t :: ts) := by
  rintro ⟨bs, a, b⟩ ⟨cs, c, d⟩
  have l1 := Nat.le_max_left n m
  have l2 := Nat.le_max_right n m
  refine ⟨bs ++ cs, (a.mono l1).append (c.mono l2), ReprAllK.cons ((b.more fun z hz => ?_).level_le l1) (d.more_le (fun z hz => ?_) l2)⟩
  · exact List.mem_append.mpr (.inl hz)
  · exact List.mem_append.mpr (.inr hz)
theorem pairs_show {P : Program} {w : World} {h : Heap} : ∀ {es : List DictEntry} {vs : List (Key × Value)}, Pairs (mixKind P w) es vs → PyData.showableAll (vs.map fun p => ofK p.1) = true → (∀ t ∈ PyData.shownAll (vs.map fun p => ofK p.1), t.length ≤ sizeLine) →
    ShwAll P w h (PyData.depthAll (vs.map fun p => ofK p.1)) (es.map (·.key)) (PyData.shownAll (vs.map fun p => ofK p.1))
  | _, _, .nil, _, _ => ⟨[], fun _ z => (nomatch z), by simp only [List.map_nil, PyData.shownAll]; exact .nil⟩
  | _, _, .cons (e := e) (kv := kv) hk hv t, hs, hz => by
    rw [List.map_cons, PyData.showableAll, Bool.and_eq_true] at hs
    rw [List.map_cons, PyData.shownAll] at hz
    rw [List.map_cons, List.map_cons, PyData.shownAll, PyData.depthAll]
    refine ShwAll.cons ?_ (pairs_show t hs.2 fun x hx => hz x (List.mem_cons.mpr (.inr hx)))
    have z1 := hz _ (List.mem_cons.mpr (.inl rfl))
    have s1 := hs.1
    rcases keyIs_shape (k := kv.1) (v := e.key) hk with ⟨i, u, e1, e2⟩ | ⟨x, u, e1, e2⟩
    · rw [e1] at s1 z1 ⊢
      rw [e2]
      have s2 : PyData.showable (.int i) = true := s1
      exact shw_is (ReprIs.int u (by simpa [PyData.showable] using s2))
    · rw [e1] at s1 z1 ⊢
      rw [e2]
      exact shw_is (ReprIs.str x u (by simpa [ofK, PyData.shown] using z1))
mutual
theorem Dv.show {X : Cx} {pins : List (Addr × Obj)} {σ : L2.St} {H : Hp} {s : Shared} (I : Inv X pins σ H s) : ∀ {d : PyData} {v : V} {u : Value}, Dv X.K H v d → RelV v u → d.showable = true → d.shown.length ≤ sizeLine → Shw X.prog X.w s.heap d.depth u d.shown
  | _, _, _, .non, r, _, _ => by cases r; rw [PyData.shown]; exact shw_is ReprIs.none
  | _, _, _, .bl b, r, _, _ => by cases r; rw [PyData.shown]; exact shw_is (ReprIs.bool b)
  | _, _, _, .int i, r, hs, _ => by obtain ⟨t, rfl⟩ := r; rw [PyData.shown]; exact shw_is (ReprIs.int t (by simpa [PyData.showable] using hs))
  | _, _, _, .str x, r, _, hz => by obtain ⟨t, rfl⟩ := r; rw [PyData.shown] at hz ⊢; exact shw_is (ReprIs.str x t hz)
  | .list ds, .ref a, _, .lst hs ha, r, sh, hz => by
    cases r
    obtain ⟨its, rv, ⟨o, n, ho, hc, _, hd⟩, _⟩ := I.list hs
    obtain ⟨as, hr⟩ := DvAll.reads I ha rv
    have rd : Reads s.heap (.ref a) (.list ds) _ := Reads.list ho hc hd hr
    rw [PyData.shown] at hz ⊢
    obtain ⟨bs, hb, hk⟩ := DvAll.show I ha rv (by simpa [PyData.showable] using sh) fun t ht => Nat.le_trans (listText_mem_le ht) hz
    have na : a ∉ bs := not_mem_of_deeper rd (by rw [PyData.depth]; omega) hb
    refine ⟨a :: bs, ReadAtMost.cons rd (by rw [PyData.depth]; omega) hb, ?_⟩
    rw [PyData.depth]
    cases its with
    | nil =>
      cases hr
      simp only [listText_nil, PyData.shownAll]
      exact .listEmpty ho hc hd
    | cons x l => exact .list ho hc hd na (by simpa using hk.length_eq) fun i y e => hk.item i y (by simpa using e)
  | .tuple ds, .ref a, _, .tup hs ha, r, sh, hz => by
    cases r
    obtain ⟨its, rv, ⟨o, ho, hc, n, hd⟩, _⟩ := I.tuple hs
    obtain ⟨as, hr⟩ := DvAll.reads I ha rv
    have rd : Reads s.heap (.ref a) (.tuple ds) _ := Reads.tuple ho hc hd hr
    rw [PyData.shown] at hz ⊢
    obtain ⟨bs, hb, hk⟩ := DvAll.show I ha rv (by simpa [PyData.showable] using sh) fun t ht => Nat.le_trans (tupleText_mem_le ht) hz
    have na : a ∉ bs := not_mem_of_deeper rd (by rw [PyData.depth]; omega) hb
    refine ⟨a :: bs, ReadAtMost.cons rd (by rw [PyData.depth]; omega) hb, ?_⟩
    rw [PyData.depth]
    exact .tuple ho hc hd na hk
  | .dict ps, .ref a, _, .dic (kvs := kvs) hs he ha, r, sh, hz => by
    cases r
    obtain ⟨_, hy, vs, kv, ⟨o, es, ep, ho, ex, hd, _, pr, _⟩⟩ := dk_of I.hok hs
    obtain ⟨⟨as, h1, n1⟩, h2⟩ := pairs_reads (h := s.heap) pr
    obtain ⟨bs, h3⟩ := DvAll.reads I ha (kv_vals kv)
    obtain ⟨sh1, sh2⟩ := PyData.showableKv_split ps (by simpa [PyData.showable] using sh)
    rw [PyData.shown] at hz ⊢
    have k1 := pairs_show (h := s.heap) pr (by rw [kv_keys kv, he]; exact sh1) (fun t ht => by
      rw [kv_keys kv, he] at ht
      obtain ⟨p, hp, hl⟩ := PyData.shownKv_key_le ps t ht
      exact Nat.le_trans hl (Nat.le_trans (dictText_mem_le hp) hz))
    rw [kv_keys kv, he] at k1 h1
    have k2 := DvAll.show I ha (kv_vals kv) sh2 (fun t ht => by
      obtain ⟨p, hp, hl⟩ := PyData.shownKv_val_le ps t ht
      exact Nat.le_trans hl (Nat.le_trans (dictText_mem_le hp) hz))
    rw [← h2] at k2 h3
    have rd : Reads s.heap (.ref a) (.dict ps) _ := Reads.dict ho ex.1 hd h1 h3
    obtain ⟨b1, r1, q1⟩ := k1.mono (PyData.depthAll_keys_le ps)
    obtain ⟨b2, r2, q2⟩ := k2.mono (PyData.depthAll_vals_le ps)
    have hb := r1.append r2
    have na : a ∉ b1 ++ b2 := not_mem_of_deeper rd (by rw [PyData.depth]; omega) hb
    refine ⟨a :: (b1 ++ b2), ReadAtMost.cons rd (by rw [PyData.depth]; omega) hb, ?_⟩
    rw [PyData.depth, PyData.shownKv_eq]
    refine .dict ho ex.1 hd hy na (ReprEntriesK.of_two es.toList _ _ (q1.more_le (fun z hz => ?_) (Nat.le_refl _)) (q2.more_le (fun z hz => ?_) (Nat.le_refl _)))
    · exact List.mem_append.mpr (.inl hz)
    · exact List.mem_append.mpr (.inr hz)
theorem DvAll.show {X : Cx} {pins : List (Addr × Obj)} {σ : L2.St} {H : Hp} {s : Shared} (I : Inv X pins σ H s) : ∀ {ds : List PyData} {vs : List V} {us : List Value}, DvAll X.K H vs ds → Vals vs us → PyData.showableAll ds = true → (∀ t ∈ PyData.shownAll ds, t.length ≤ sizeLine) →
    ShwAll X.prog X.w s.heap (PyData.depthAll ds) us (PyData.shownAll ds)
  | _, _, _, .nil, r, _, _ => by cases r; rw [PyData.shownAll]; exact ⟨[], fun _ z => (nomatch z), .nil⟩
  | _, _, _, .cons h1 h2, r, sh, hz => by
    cases r with
    | cons r1 r2 =>
      rw [PyData.showableAll, Bool.and_eq_true] at sh
      rw [PyData.shownAll] at hz ⊢
      rw [PyData.depthAll]
      exact ShwAll.cons (Dv.show I h1 r1 sh.1 (hz _ (List.mem_cons.mpr (.inl rfl)))) (DvAll.show I h2 r2 sh.2 fun x hx => hz x (List.mem_cons.mpr (.inr hx)))
end
/-! ### weight and repr -/
mutual
def okV : PyData → Bool
  | .none => true
  | .bool _ => true
  | .int i => decide (i.natAbs < 2 ^ 1000)
  | .str x => (x.cps.toList.all fun c => decide (c < 4294967296)) && decide (x.length ≤ 100000)
  | .list xs => okVAll xs
  | .tuple xs => okVAll xs
  | .dict ps => okVKv ps
def okVAll : List PyData → Bool
  | [] => true
  | x :: xs => okV x && okVAll xs
def okVKv : List (PyData × PyData) → Bool
  | [] => true
  | (a, b) :: r => okV a && okV b && okVKv r
end
mutual
/-- no less than the length of its text -/
def wV : PyData → Nat
  | .none => 4
  | .bool _ => 5
  | .int _ => 1010
  | .str x => 10 * x.length + 2
  | .list xs => wVAll xs + 4
  | .tuple xs => wVAll xs + 4
  | .dict ps => wVKv ps + 4
def wVAll : List PyData → Nat
  | [] => 0
  | x :: xs => wV x + 2 + wVAll xs
def wVKv : List (PyData × PyData) → Nat
  | [] => 0
  | (a, b) :: r => wV a + wV b + 6 + wVKv r
end
theorem wVAll_len : ∀ ds : List PyData, ds.length ≤ wVAll ds
  | [] => Nat.le_refl _
  | d :: ds => by have := wVAll_len ds; rw [wVAll, List.length_cons]; omega
theorem wVAll_mem : ∀ {ds : List PyData} {d : PyData}, d ∈ ds → wV d + 2 ≤ wVAll ds
  | e :: ds, d, h => by
    rw [wVAll]
    rcases List.mem_cons.mp h with rfl | h
    · omega
    · have := wVAll_mem h; omega
theorem wVAll_app : ∀ (xs ys : List PyData), wVAll (xs ++ ys) = wVAll xs + wVAll ys
  | [], ys => by rw [List.nil_append, wVAll]; omega
  | x :: xs, ys => by rw [List.cons_append, wVAll, wVAll, wVAll_app xs ys]; omega
theorem okVAll_app : ∀ (xs ys : List PyData), okVAll (xs ++ ys) = (okVAll xs && okVAll ys)
  | [], ys => by rw [List.nil_append, okVAll]; rfl
  | x :: xs, ys => by rw [List.cons_append, okVAll, okVAll, okVAll_app xs ys, Bool.and_assoc]
theorem okVAll_mem : ∀ {ds : List PyData} {d : PyData}, okVAll ds = true → d ∈ ds → okV d = true
  | e :: ds, d, k, h => by
    rw [okVAll, Bool.and_eq_true] at k
    rcases List.mem_cons.mp h with rfl | h
    · exact k.1
    · exact okVAll_mem k.2 h
theorem okVAll_of : ∀ {ds : List PyData}, (∀ d ∈ ds, okV d = true) → okVAll ds = true
  | [], _ => rfl
  | e :: ds, h => by
    rw [okVAll, Bool.and_eq_true]
    exact ⟨h e (List.mem_cons_self ..), okVAll_of fun d hd => h d (List.mem_cons_of_mem _ hd)⟩
theorem dictText_le : ∀ (ps : List (PyData × PyData)), (dictText (PyData.shownKv ps)).length ≤ piled (PyData.shownKv ps) + 4 := by
  intro ps
  unfold dictText
  rw [strLen_append, strLen_append]
  have e1 : ((("{" : String) : Str)).length = 1 := rfl
  have e3 : ((("}" : String) : Str)).length = 1 := rfl
  by_cases h : PyData.shownKv ps = []
  · rw [h]
    have e0 : (Str.join ", " []).length = 0 := rfl
    omega
  · have := join_length_add (PyData.shownKv ps) h
    omega
mutual
theorem shownV_le : ∀ d : PyData, okV d = true → d.shown.length ≤ wV d ∧ d.showable = true
  | .none, _ => ⟨by decide, rfl⟩
  | .bool b, _ => ⟨by cases b <;> decide, rfl⟩
  | .int i, h => by
    have h' : i.natAbs < 2 ^ 1000 := of_decide_eq_true (show decide _ = true from h)
    exact ⟨toString_le h', decide_eq_true (log_le h')⟩
  | .str x, h => by
    refine ⟨StrLaws.reprText_len x fun c hc => ?_, rfl⟩
    have h' : ((x.cps.toList.all fun c => decide (c < 4294967296)) && decide (x.length ≤ 100000)) = true := h
    rw [Bool.and_eq_true] at h'
    have := of_decide_eq_true (List.all_eq_true.mp h'.1 c hc)
    have e : (16 : Nat) ^ 8 = 4294967296 := by decide
    omega
  | .list xs, h => by
    have ih := shownVAll_le xs h
    refine ⟨?_, by rw [PyData.showable]; exact ih.2⟩
    rw [PyData.shown, wV]
    have := listText_le (PyData.shownAll xs)
    omega
  | .tuple xs, h => by
    have ih := shownVAll_le xs h
    refine ⟨?_, by rw [PyData.showable]; exact ih.2⟩
    rw [PyData.shown, wV]
    have := tupleText_le (PyData.shownAll xs)
    omega
  | .dict ps, h => by
    have ih := shownVKv_le ps h
    refine ⟨?_, by rw [PyData.showable]; exact ih.2⟩
    rw [PyData.shown, wV]
    have := dictText_le ps
    omega
theorem shownVAll_le : ∀ ds : List PyData, okVAll ds = true → piled (PyData.shownAll ds) ≤ wVAll ds ∧ PyData.showableAll ds = true
  | [], _ => ⟨by rw [PyData.shownAll]; exact Nat.le_refl _, rfl⟩
  | d :: ds, h => by
    have h' : (okV d && okVAll ds) = true := by rw [okVAll] at h; exact h
    rw [Bool.and_eq_true] at h'
    have i1 := shownV_le d h'.1
    have i2 := shownVAll_le ds h'.2
    refine ⟨?_, by rw [PyData.showableAll, i1.2, i2.2]; rfl⟩
    rw [PyData.shownAll, wVAll]
    have e2 : piled (d.shown :: PyData.shownAll ds) = d.shown.length + 2 + piled (PyData.shownAll ds) := by unfold piled; rw [List.map_cons, List.sum_cons]
    omega
theorem shownVKv_le : ∀ ps : List (PyData × PyData), okVKv ps = true → piled (PyData.shownKv ps) ≤ wVKv ps ∧ PyData.showableKv ps = true
  | [], _ => ⟨by rw [PyData.shownKv]; exact Nat.le_refl _, rfl⟩
  | (a, b) :: r, h => by
    have h' : (okV a && okV b && okVKv r) = true := by rw [okVKv] at h; exact h
    rw [Bool.and_eq_true, Bool.and_eq_true] at h'
    have i1 := shownV_le a h'.1.1
    have i2 := shownV_le b h'.1.2
    have i3 := shownVKv_le r h'.2
    refine ⟨?_, by rw [PyData.showableKv, i1.2, i2.2, i3.2]; rfl⟩
    rw [PyData.shownKv, wVKv]
    have e2 : ∀ (t : Str) (l : List Str), piled (t :: l) = t.length + 2 + piled l := fun t l => by unfold piled; rw [List.map_cons, List.sum_cons]
    rw [e2, strLen_append, strLen_append]
    have e3 : (((": " : String) : Str)).length = 2 := rfl
    omega
end
/-- how deep -/
def rReprV (K : PySem.W.Frag) : List V → Hp → VK → Prop := fun xs H Q => ∃ (x : V) (d : PyData), xs = [x] ∧ Dv K H x d ∧ okV d = true ∧ d.depth ≤ 40 ∧ wV d ≤ 10000000 ∧ Q (.str d.shown) H
theorem shows_call {P : Program} {w : World} {s : Shared} {a : Addr} {d : PyData} {T idr : String} {A : Around} {E : Value → Shared → Prop} {Q : Value → Shared → Prop} (hg : A.guards = some []) (hu : A.units + (d.depth + 1) < cLine) (S : ShowsBy P w s.heap a d T idr)
    (q : ∀ h' u tk, (∀ b o, s.heap.get? b = some o → h'.get? b = some o) → Q (.str d.shown u) { s with heap := h', toks := tk }) : wpAny (model P w) A (call (.builtin "repr") [.ref a]) Q E s :=
  call_repr_slot (by omega) (S.typeIs s fun _ _ e => e) S.slotRepr (S.call A.in1 E s _ hg (by show A.units + 1 + d.depth < cLine; omega) (fun _ _ e => e) fun h' u tk hk => ⟨_, _, rfl, q h' u tk hk⟩)
theorem call_reprV {X : Cx} (hg : X.A.guards = some []) (hu : X.A.units + 64 < cLine) : CallR X (.builtin "repr") (rReprV X.K) := by
  intro pins s σ H xs us Q I r h
  obtain ⟨x, d, rfl, hd, ok, hn, hw, q⟩ := h
  obtain ⟨u, rfl, ru⟩ := vals1 r
  obtain ⟨hl, hs⟩ := shownV_le d ok
  have hsz : d.shown.length ≤ sizeLine := by rw [sizeLine_eq]; omega
  cases hd with
  | non =>
    cases ru
    exact P.repr_of_none ⟨.str _, H, I.tok _, ⟨_, rfl⟩, q⟩
  | bl b =>
    cases ru
    exact P.repr_of_bool ⟨.str _, H, I.tok _, ⟨_, rfl⟩, q⟩
  | int i =>
    obtain ⟨t, rfl⟩ := ru
    have h' : i.natAbs < 2 ^ 1000 := of_decide_eq_true (show decide _ = true from ok)
    exact P.repr_of_int (log_le h') ⟨.str _, H, I.tok _, ⟨_, rfl⟩, q⟩
  | str z =>
    obtain ⟨t, rfl⟩ := ru
    exact P.repr_of_str ⟨.str _, H, I.tok _, ⟨_, rfl⟩, q⟩ hsz
  | @lst a xs ds hs2 ha =>
    cases ru
    refine shows_call (T := "list") (idr := "list.__repr__") (d := .list ds) hg (by omega) ⟨F.slot_list_repr.toG, F.slot_list_str, F.slot_list_format, fun s2 hk => ?_, fun A E s2 Q2 hg2 hu2 hk0 hQ => ?_⟩ fun h' tu tk hk => ⟨.str _, H, I.kept hk, ⟨_, rfl⟩, q⟩
    · obtain ⟨its, rv, ⟨o, n, ho, hc, _, hd⟩, _⟩ := I.list hs2
      exact ⟨o, hk _ _ ho, hc⟩
    · obtain ⟨its, rv, ⟨o, n, ho, hc, _, hd⟩, _⟩ := I.list hs2
      rw [PyData.shown] at hsz hQ
      rw [PyData.depth] at hu2
      obtain ⟨bs, hb, hk⟩ := DvAll.show I ha rv (by simpa [PyData.showable] using hs) fun t ht => Nat.le_trans (listText_mem_le ht) hsz
      obtain ⟨as, hr⟩ := DvAll.reads I ha rv
      have na : a ∉ bs := not_mem_of_deeper (Reads.list ho hc hd hr) (by rw [PyData.depth]; omega) hb
      cases its with
      | nil =>
        cases hr
        rw [PyData.shownAll, listText_nil] at hQ
        exact call_list_repr_empty ⟨o, hk0 _ _ ho, hc⟩ (hk0 _ _ ho) hd (hQ s2.heap _ _ fun _ _ e => e)
      | cons y l => exact call_list_reprK ho hc hd na (by simpa using hk.length_eq) (fun i z e => hk.item i z (by simpa using e)) hg2 (fun b _ => Clear.nil b) hu2 hk0 hQ hsz
  | @tup a xs ds hs2 ha =>
    cases ru
    refine shows_call (T := "tuple") (idr := "tuple.__repr__") (d := .tuple ds) hg (by omega) ⟨F.slot_tuple_repr, F.slot_tuple_str, F.slot_tuple_format, fun s2 hk => ?_, fun A E s2 Q2 hg2 hu2 hk0 hQ => ?_⟩ fun h' tu tk hk => ⟨.str _, H, I.kept hk, ⟨_, rfl⟩, q⟩
    · obtain ⟨its, rv, ⟨o, ho, hc, n, hd⟩, _⟩ := I.tuple hs2
      exact ⟨o, hk _ _ ho, hc⟩
    · obtain ⟨its, rv, ⟨o, ho, hc, n, hd⟩, _⟩ := I.tuple hs2
      rw [PyData.shown] at hsz hQ
      rw [PyData.depth] at hu2
      obtain ⟨bs, hb, hk⟩ := DvAll.show I ha rv (by simpa [PyData.showable] using hs) fun t ht => Nat.le_trans (tupleText_mem_le ht) hsz
      obtain ⟨as, hr⟩ := DvAll.reads I ha rv
      have na : a ∉ bs := not_mem_of_deeper (Reads.tuple ho hc hd hr) (by rw [PyData.depth]; omega) hb
      exact call_tuple_reprK ho hc hd na hk hg2 (fun b _ => Clear.nil b) hu2 hk0 hQ hsz
  | @dic a kvs ps hs2 he ha =>
    cases ru
    refine shows_call (T := "dict") (idr := "dict.__repr__") (d := .dict ps) hg (by omega) ⟨F.slot_dict_repr, F.slot_dict_str, F.slot_dict_format, fun s2 hk => ?_, fun A E s2 Q2 hg2 hu2 hk0 hQ => ?_⟩ fun h' tu tk hk => ⟨.str _, H, I.kept hk, ⟨_, rfl⟩, q⟩
    · obtain ⟨_, hy, vs, kv, ⟨o, es, ep, ho, ex, hd, _, pr, _⟩⟩ := dk_of I.hok hs2
      exact ⟨o, hk _ _ ho, ex.1⟩
    · obtain ⟨_, hy, vs, kv, ⟨o, es, ep, ho, ex, hd, _, pr, _⟩⟩ := dk_of I.hok hs2
      obtain ⟨⟨as, h1, n1⟩, h2⟩ := pairs_reads (h := s.heap) pr
      obtain ⟨bs, h3⟩ := DvAll.reads I ha (kv_vals kv)
      obtain ⟨sh1, sh2⟩ := PyData.showableKv_split ps (by simpa [PyData.showable] using hs)
      rw [PyData.shown] at hsz hQ
      rw [PyData.depth] at hu2
      have k1 := pairs_show (h := s.heap) pr (by rw [kv_keys kv, he]; exact sh1) (fun t ht => by
        rw [kv_keys kv, he] at ht
        obtain ⟨p, hp, hl⟩ := PyData.shownKv_key_le ps t ht
        exact Nat.le_trans hl (Nat.le_trans (dictText_mem_le hp) hsz))
      rw [kv_keys kv, he] at k1 h1
      have k2 := DvAll.show I ha (kv_vals kv) sh2 (fun t ht => by
        obtain ⟨p, hp, hl⟩ := PyData.shownKv_val_le ps t ht
        exact Nat.le_trans hl (Nat.le_trans (dictText_mem_le hp) hsz))
      rw [← h2] at k2 h3
      obtain ⟨b1, r1, q1⟩ := k1.mono (PyData.depthAll_keys_le ps)
      obtain ⟨b2, r2, q2⟩ := k2.mono (PyData.depthAll_vals_le ps)
      have na : a ∉ b1 ++ b2 := not_mem_of_deeper (Reads.dict ho ex.1 hd h1 h3) (by rw [PyData.depth]; omega) (r1.append r2)
      rw [PyData.shownKv_eq] at hQ hsz
      refine call_dict_reprK ho ex.1 hd hy na (ReprEntriesK.of_two es.toList _ _ (q1.more_le (fun z hz => ?_) (Nat.le_refl _)) (q2.more_le (fun z hz => ?_) (Nat.le_refl _))) hg2 (fun b _ => Clear.nil b) hu2 hk0 hQ hsz
      · exact List.mem_append.mpr (.inl hz)
      · exact List.mem_append.mpr (.inr hz)
end Fld
/-! what a field, a list of fields, a setting is, over data of any kind -/
namespace Fld
open PySem PySem.Spec PyProof.Rows L2
def dBtw : PyData → Int → Int → Bool
  | .int i, a, b => decide (a ≤ i) && decide (i ≤ b)
  | _, _, _ => false
def dTxt : PyData → Int → Int → Bool
  | .str x, a, b => decide (a ≤ (x.length : Int)) && decide ((x.length : Int) ≤ b) && x.cps.toList.all isChar
  | _, _, _ => false
theorem Dv.btw {K : PySem.W.Frag} {H : Hp} {v : V} {d : PyData} (h : Dv K H v d) (a b : Int) : Fld.btw v a b = dBtw d a b := by cases h <;> rfl
theorem Dv.txt {K : PySem.W.Frag} {H : Hp} {v : V} {d : PyData} (h : Dv K H v d) (a b : Int) : Fld.txt v a b = dTxt d a b := by cases h <;> rfl
/-- not too great for any rule -/
def Lim (d : PyData) : Prop := okV d = true ∧ wV d ≤ 10000000
theorem Dv.strLe {K : PySem.W.Frag} {H : Hp} {v : V} {d : PyData} (h : Dv K H v d) (hw : Lim d) : ∀ x, v = .str x → x.length ≤ 100000 := by
  rintro x rfl
  cases h
  have h' : ((x.cps.toList.all fun c => decide (c < 4294967296)) && decide (x.length ≤ 100000)) = true := hw.1
  rw [Bool.and_eq_true, decide_eq_true_eq] at h'
  exact h'.2
def dField : PyData → Bool
  | .tuple [n, v] => dTxt n 1 20 && dTxt v 0 40
  | _ => false
def dFields (most : Nat) : PyData → Bool
  | .tuple ds => decide (ds.length ≤ most) && ds.all dField
  | _ => false
def dSetting : PyData → Bool
  | .tuple [f, r, w] => dFields 12 f && dBtw r 0 120 && dBtw w 0 4
  | _ => false
def dOctets : PyData → Bool
  | .list ds => ds.all fun d => dBtw d 0 255
  | _ => false
def isTup : PyData → Bool
  | .tuple _ => true
  | _ => false
def isLst : PyData → Bool
  | .list _ => true
  | _ => false
def isStr : PyData → Bool
  | .str _ => true
  | _ => false
def isDic : PyData → Bool
  | .dict _ => true
  | _ => false
theorem sub_tup (d : PyData) : subT (tyD d) "tuple" = isTup d := by
  cases d with
  | none => decide
  | bool b => show subT "bool" "tuple" = false; decide
  | int i => show subT "int" "tuple" = false; decide
  | str x => show subT "str" "tuple" = false; decide
  | list l => show subT "list" "tuple" = false; decide
  | tuple l => show subT "tuple" "tuple" = true; decide
  | dict l => show subT "dict" "tuple" = false; decide
theorem sub_lst (d : PyData) : subT (tyD d) "list" = isLst d := by
  cases d with
  | none => decide
  | bool b => show subT "bool" "list" = false; decide
  | int i => show subT "int" "list" = false; decide
  | str x => show subT "str" "list" = false; decide
  | list l => show subT "list" "list" = true; decide
  | tuple l => show subT "tuple" "list" = false; decide
  | dict l => show subT "dict" "list" = false; decide
theorem sub_str (d : PyData) : subT (tyD d) "str" = isStr d := by
  cases d with
  | none => decide
  | bool b => show subT "bool" "str" = false; decide
  | int i => show subT "int" "str" = false; decide
  | str x => show subT "str" "str" = true; decide
  | list l => show subT "list" "str" = false; decide
  | tuple l => show subT "tuple" "str" = false; decide
  | dict l => show subT "dict" "str" = false; decide
theorem sub_dic (d : PyData) : subT (tyD d) "dict" = isDic d := by
  cases d with
  | none => decide
  | bool b => show subT "bool" "dict" = false; decide
  | int i => show subT "int" "dict" = false; decide
  | str x => show subT "str" "dict" = false; decide
  | list l => show subT "list" "dict" = false; decide
  | tuple l => show subT "tuple" "dict" = false; decide
  | dict l => show subT "dict" "dict" = true; decide
theorem Dv.asT {K : PySem.W.Frag} {H : Hp} {v : V} {d : PyData} (h : Dv K H v d) (e : subT (tyD d) "tuple" = true) : ∃ a xs ds, v = .ref a ∧ d = .tuple ds ∧ SqT K H a xs ∧ DvAll K H xs ds := by
  rw [sub_tup] at e
  cases h <;> first | cases e | skip
  rename_i hs ha
  exact ⟨_, _, _, rfl, rfl, hs, ha⟩
theorem Dv.asL {K : PySem.W.Frag} {H : Hp} {v : V} {d : PyData} (h : Dv K H v d) (e : subT (tyD d) "list" = true) : ∃ a xs ds, v = .ref a ∧ d = .list ds ∧ SqL K H a xs ∧ DvAll K H xs ds := by
  rw [sub_lst] at e
  cases h <;> first | cases e | skip
  rename_i hs ha
  exact ⟨_, _, _, rfl, rfl, hs, ha⟩
theorem Dv.asS {K : PySem.W.Frag} {H : Hp} {v : V} {d : PyData} (h : Dv K H v d) (e : subT (tyD d) "str" = true) : ∃ x, v = .str x ∧ d = .str x := by
  rw [sub_str] at e
  cases h <;> first | cases e | skip
  exact ⟨_, rfl, rfl⟩
theorem nb {c : Bool} (e : (!c) = true) : c = false := by cases c <;> first | rfl | cases e
theorem nb' {c : Bool} (e : (!c) = false) : c = true := by cases c <;> first | rfl | cases e
theorem dField_no {d : PyData} (e : subT (tyD d) "tuple" = false) : dField d = false := by
  rw [sub_tup] at e
  cases d <;> first | rfl | cases e
theorem dFields_no {d : PyData} {m : Nat} (e : subT (tyD d) "tuple" = false) : dFields m d = false := by
  rw [sub_tup] at e
  cases d <;> first | rfl | cases e
theorem dSetting_no {d : PyData} (e : subT (tyD d) "tuple" = false) : dSetting d = false := by
  rw [sub_tup] at e
  cases d <;> first | rfl | cases e
theorem dOctets_no {d : PyData} (e : subT (tyD d) "list" = false) : dOctets d = false := by
  rw [sub_lst] at e
  cases d <;> first | rfl | cases e
theorem dTxt_no {d : PyData} {a b : Int} (e : subT (tyD d) "str" = false) : dTxt d a b = false := by
  rw [sub_str] at e
  cases d <;> first | rfl | cases e
/-- a check: True or False, all that stood stands -/
def sp_chk (K : PySem.W.Frag) (f : PyData → Bool) : Sp := fun vs H Q _ => ∃ (v : V) (d : PyData), vs = [v] ∧ Dv K H v d ∧ Lim d ∧ ∀ H', Same H H' → Q (.bl (f d)) H'
def sp_chkM (K : PySem.W.Frag) (f : Nat → PyData → Bool) : Sp := fun vs H Q _ => ∃ (v : V) (d : PyData) (m : Nat), vs = [v, .int (m : Nat)] ∧ Dv K H v d ∧ Lim d ∧ ∀ H', Same H H' → Q (.bl (f m d)) H'
def sp_chkT (K : PySem.W.Frag) : Sp := fun vs H Q _ => ∃ (v : V) (d : PyData) (a b : Int), vs = [v, .int a, .int b] ∧ Dv K H v d ∧ Lim d ∧ ∀ H', Same H H' → Q (.bl (dTxt d a b)) H'
def sp_chkB (K : PySem.W.Frag) : Sp := fun vs H Q _ => ∃ (v : V) (d : PyData) (a b : Int), vs = [v, .int a, .int b] ∧ Dv K H v d ∧ Q (.bl (dBtw d a b)) H
theorem len2 {K : PySem.W.Frag} {H : Hp} {xs : List V} {ds : List PyData} (h : DvAll K H xs ds) (e : xs.length = 2) : ∃ x0 x1 d0 d1, xs = [x0, x1] ∧ ds = [d0, d1] ∧ Dv K H x0 d0 ∧ Dv K H x1 d1 := by
  cases h with
  | nil => cases e
  | cons h0 t =>
    cases t with
    | nil => cases e
    | cons h1 t =>
      cases t with
      | nil => exact ⟨_, _, _, _, rfl, rfl, h0, h1⟩
      | cons _ _ => simp at e
theorem len3 {K : PySem.W.Frag} {H : Hp} {xs : List V} {ds : List PyData} (h : DvAll K H xs ds) (e : xs.length = 3) : ∃ x0 x1 x2 d0 d1 d2, xs = [x0, x1, x2] ∧ ds = [d0, d1, d2] ∧ Dv K H x0 d0 ∧ Dv K H x1 d1 ∧ Dv K H x2 d2 := by
  cases h with
  | nil => cases e
  | cons h0 t =>
    obtain ⟨_, _, _, _, rfl, rfl, h1, h2⟩ := len2 t (by simpa using e)
    exact ⟨_, _, _, _, _, _, rfl, rfl, h0, h1, h2⟩
theorem dField_ne {ds : List PyData} (h : ds.length ≠ 2) : dField (.tuple ds) = false := by
  match ds, h with
  | [], _ => rfl
  | [_], _ => rfl
  | [_, _], h => exact absurd rfl h
  | _ :: _ :: _ :: _, _ => rfl
theorem dSetting_ne {ds : List PyData} (h : ds.length ≠ 3) : dSetting (.tuple ds) = false := by
  match ds, h with
  | [], _ => rfl
  | [_], _ => rfl
  | [_, _], _ => rfl
  | [_, _, _], h => exact absurd rfl h
  | _ :: _ :: _ :: _ :: _, _ => rfl
theorem decI {n m : Nat} : decide (V.int (n : Int) = V.int (m : Int)) = decide (n = m) := by
  rw [decide_eq_decide]
  constructor
  · intro h; injection h with h; omega
  · rintro rfl; rfl
theorem nAt {n m : Nat} (e : decide (V.int (n : Int) = V.int (m : Int)) = true) : n = m := by rw [decI] at e; exact of_decide_eq_true e
theorem nNe {n m : Nat} (e : decide (V.int (n : Int) = V.int (m : Int)) = false) : n ≠ m := by rw [decI] at e; exact of_decide_eq_false e
/-- the weight of an item -/
theorem w_tup {ds : List PyData} {d : PyData} (h : d ∈ ds) (hw : Lim (.tuple ds)) : Lim d := by
  obtain ⟨h1, h2⟩ := hw
  rw [okV] at h1
  rw [wV] at h2
  have := wVAll_mem h
  exact ⟨okVAll_mem h1 h, by omega⟩
theorem w_lst {ds : List PyData} {d : PyData} (h : d ∈ ds) (hw : Lim (.list ds)) : Lim d := by
  obtain ⟨h1, h2⟩ := hw
  rw [okV] at h1
  rw [wV] at h2
  have := wVAll_mem h
  exact ⟨okVAll_mem h1 h, by omega⟩
theorem w_tupLen {ds : List PyData} (hw : Lim (.tuple ds)) : ds.length ≤ 10000000 := by
  have h2 := hw.2
  rw [wV] at h2; have := wVAll_len ds; omega
theorem w_lstLen {ds : List PyData} (hw : Lim (.list ds)) : ds.length ≤ 10000000 := by
  have h2 := hw.2
  rw [wV] at h2; have := wVAll_len ds; omega
/-- a list of truths, one for each item -/
theorem tests_of {K : PySem.W.Frag} {H : Hp} {xs : List V} {ds : List PyData} (f : PyData → Bool) (h : DvAll K H xs ds) : (List.range xs.length).map (fun i => V.bl (f (ds.getD i .none))) = (ds.map f).map V.bl := by
  rw [h.len, List.map_map]
  exact range_map ds (fun c => V.bl (f c)) .none
theorem all_id {ds : List PyData} (f : PyData → Bool) : (ds.map f).all id = ds.all f := by rw [List.all_map]; rfl
theorem inB {b : Bool} (bs : List Bool) : inV (.bl false) (bs.map V.bl) = !bs.all id := by
  unfold inV
  rw [List.any_map]
  induction bs with
  | nil => rfl
  | cons c r ih =>
    rw [List.any_cons, List.all_cons, ih]
    cases c <;> rfl
theorem flatB (bs : List Bool) : (bs.map V.bl).all flatV = true := by
  rw [List.all_map]; exact List.all_eq_true.mpr fun _ _ => rfl
end Fld
/-! Errors of the program: a base of its own over ValueError, whose __init__ is called by name out of the __init__ of its heirs. -/
namespace Fld
open PySem PySem.Spec PyProof.Rows L2
section
variable {X : Cx} {e : Expr} {es : List Expr} {ta : TA} {x : Str} {FE : Addr} {mc : Value} {p1 p2 pos : Pos}
/-- what the written part says of the base -/
structure BaseC (K : PySem.W.Frag) (mg : Str → Option Value) (x : Str) (FE : Addr) (mc : Value) : Prop where
  g : mg x = some (.ref FE)
  rd : ClX.CRead K FE mc
  ini : PySem.W.findCls K (.ref FE) mc "__init__" = some (.val (.builtin "ValueError.__init__"))
theorem pe_feinit {pl : Sem Bool} (B : BaseC X.K X.mg x FE mc) (hg : Gl X x) (ha : PA X (e :: es) ta) (hdb : (x == ("__debug__" : Str)) = false := by decide)
    (hc : eval (.Call (.Attribute (.Name x p1) "__init__" p2) (e :: es) [] pos) X.env = (do
      let ov ← eval (.Name x p1) X.env
      standAt p2.atName
      let (f, first) ← holding [ov] (getMethod ov "__init__" pl)
      callWith pos f first (backTo pos (starEach (e :: es) X.env)) (backToKw pos (keywordEach [] X.env))) := by rfl)
    (he : starEach (e :: es) X.env = (false, eval e X.env) :: starEach es X.env := by rfl) (hpl : (backTo pos (starEach es X.env)).any (·.1) = false := by rfl) :
    PE X (.Call (.Attribute (.Name x p1) "__init__" p2) (e :: es) [] pos) (tVeI X.K ta) := by
  refine ⟨?_⟩
  intro pins s σ H Q I h
  refine PySem.W.methodCall_KW (ld_glob I hg B.g ?_ hdb) hc
  refine PySem.W.method_cls I.kIn B.rd.ga (PySem.W.cls_value I.kIn B.rd.rd B.ini rfl ?_)
  show wpAny _ _ (callWith pos (Value.builtin "ValueError.__init__") [] (backTo pos (starEach (e :: es) X.env)) []) _ _ _
  refine PyProof.Rows.callWith_method1 (thn (ha.run pos pins _ σ H _ (I.tok _) h) ?_) he hpl
  rintro us s1 ⟨vs, H1, I1, r1, a, C, ws, rfl, hl, TC, ea, q⟩
  cases r1 with
  | cons ra rw' =>
    cases (show _ = Value.ref a from ra)
    exact oinit_ok TC I1 ea (by rw [← Paired.length rw', sizeLine_eq]; omega) fun s' J => ⟨.non, H1, J, rfl, q⟩
end
/-- __init__ of an heir: its one argument is kept as the attribute f -/
def sp_err (C : Addr) (f : Str) : Sp := fun vs H Q _ => ∃ (a : Addr) (k : Int), vs = [.ref a, .int k] ∧ k.natAbs < 2 ^ 1000 ∧ H a = some (exo a C none) ∧
  ∀ dx, H dx = none → dx ≠ a → Q .non (upd (upd H dx (exd dx [(f, .int k)])) a (exo a C (some dx)))
/-- what the written part says of an heir at C, its __init__ at fI -/
structure ErrC (K : PySem.W.Frag) (mg : Str → Option Value) (x f : Str) (C fI : Addr) : Prop where
  ox : OexC K C
  g : mg x = some (.ref C)
  iC : PySem.W.findIn K (.ref C) "__init__" = some (some (.ref fI))
  tI : PySem.W.typeIn K (.ref fI) = some (.type "function")
  no : PySem.W.findIn K (.ref C) f = some none
/-- raise C(e): what its reading asks behind the argument -/
def tRaiseE (C : Addr) (f : Str) (W : WX) (ta : TA) : TS := fun _ σ H => tMkO C (sp_err C f) [] ta σ H fun cls d H' => W cls d σ H'
theorem ps_raiseE {X : Cx} {CX : CXT} {x f : Str} {C fI : Addr} {k : Nat} {fd : FuncData} {e : Expr} {ta : TA} {W : WX} {p pos pos2 : Pos} (hcalm : X.calm = true) (T : ErrC X.K X.mg x f C fI) (F1 : FnOk X.prog X.w X.K X.mg X.base CX k fI fd ["self", f] (sp_err C f)) (hr : Room (k + 1) X.A) (hb : Binds X.K fd ["self", f] [])
    (hx : Passes CX X (fun _ _ _ => False)) (tk : Takes X W) (hg : Gl X x) (ha : PA X [e] ta)
    (hdb : (x == ("__debug__" : Str)) = false := by decide) (he : starEach (e :: []) X.env = (false, eval e X.env) :: starEach [] X.env := by rfl) (hpl : (backTo pos (starEach [] X.env)).any (·.1) = false := by rfl) :
    PS X (.Raise (some (.Call (.Name x p) [e] [] pos)) none pos2) (tRaiseE C f W ta) :=
  ps_raise (pos := pos2) hcalm tk (pmk_oex (pos := pos) (p := p) T.ox T.iC T.tI F1 hr hb .nil hx hg T.g ha hdb he hpl)
/-- the error's own dict, new, holds the number; all that stood stands -/
theorem err_go {C : Addr} {f : Str} {k : Int} {H1 : Hp} {Q : Value → Option Addr → Hp → Prop} (hk : k.natAbs < 2 ^ 1000) (q : ∀ (d : Addr) H', Same H1 H' → H1 d = none → H' d = some (.xd [(f, .int k)]) → Q (.ref C) (some d) H') :
    ([V.int k] : List V).length ≤ 1000 ∧ ∀ a, H1 a = none → sp_err C f (.ref a :: ([.int k] ++ [])) (upd H1 a (exo a C none)) (fun v H2 => v = .non ∧ ∃ (d : Addr) (fs : List (Str × V)), H2 a = some (exo a C (some d)) ∧ H2 d = some (exd d fs) ∧ H1 d = none ∧ Q (.ref C) (some d) (upd (del H2 a) d (.xd fs))) (fun _ _ _ => False) := by
  refine ⟨by show 1 ≤ 1000; decide, fun a hna => ⟨a, k, rfl, hk, upd_same, fun dx hdx hda => ⟨rfl, dx, [(f, .int k)], upd_same, ?_, ?_, ?_⟩⟩⟩
  · rw [upd_ne hda, upd_same]
  · rw [upd_ne hda] at hdx; exact hdx
  · have hdx' : H1 dx = none := by rw [upd_ne hda] at hdx; exact hdx
    refine q dx _ (fun b o hb => ?_) hdx' upd_same
    have n1 : b ≠ dx := ne_of_none hb hdx'
    have n2 : b ≠ a := ne_of_none hb hna
    rw [upd_ne n1, del_ne n2, upd_ne n2, upd_ne n1, upd_ne n2]
    exact hb
/-- a plain heir: no __init__ of its own -/
structure PlainC (K : PySem.W.Frag) (mg : Str → Option Value) (x : Str) (C : Addr) (bm : List Value) : Prop where
  g : mg x = some (.ref C)
  x_ : PySem.W.excIn K C bm "ValueError.__new__" = true
  k_ : PySem.W.keepIn K (.ref C) = true
  b_ : PySem.W.subIn K (.ref C) (.type "BaseException") = some true
  t_ : PySem.W.typeIn K (.ref C) = some (.type "type")
/-- what an except clause asks of a base of the program's own -/
structure RootC (K : PySem.W.Frag) (C : Addr) : Prop where
  b_ : PySem.W.subIn K (.ref C) (.type "BaseException") = some true
  t_ : PySem.W.typeIn K (.ref C) = some (.type "type")
  d_ : PySem.W.hasDictIn K C = true
structure HeirC (K : PySem.W.Frag) (C FE : Addr) : Prop where
  b_ : PySem.W.subIn K (.ref C) (.type "BaseException") = some true
  t_ : PySem.W.typeIn K (.ref C) = some (.type "type")
  u_ : PySem.W.subIn K (.ref C) (.ref FE) = some true
theorem RootC.exm {K : PySem.W.Frag} {C FE : Addr} (r : RootC K FE) (h : HeirC K C FE) : PySem.W.exmOne K (.ref C) (.ref FE) = some true := PySem.W.exm_ref r.b_ r.d_ r.t_ h.u_
/-- text += text on a local -/
def ipT : TIp := fun x y H Q => ∃ i j, x = .str i ∧ y = .str j ∧ i.length + j.length ≤ sizeLine ∧ Q (.str (i ++ j)) H
theorem ip_addT {X : Cx} : PIp X .Add ipT := fun pins s σ H x y u v Q I rx ry h => iop_add_str pins s σ H x y u v Q I rx ry h
end Fld
/-! The reader of octets: its state, what its calls return or raise, by a mirror over the list of octets. -/
namespace Fld
open PySem PySem.Spec PyProof.Rows L2
/-- the reader at r, over the octets os at a, stands at place k -/
structure Rd (K : PySem.W.Frag) (C : Addr) (H : Hp) (r a : Addr) (os : List Int) (k : Nat) : Prop where
  ex : ∃ dx, H r = some (.ins C dx [("octets", .ref a), ("place", .int (k : Nat))])
  sq : SqL K H a (os.map V.int)
  ne : a ≠ r
  lt : ∀ o ∈ os, 0 ≤ o ∧ o < 256
  len : os.length ≤ 1000000
  le : k ≤ os.length
theorem Rd.keep {K : PySem.W.Frag} {C r a : Addr} {H H' : Hp} {os : List Int} {k : Nat} (h : Rd K C H r a os k) (s : Same H H') : Rd K C H' r a os k := by
  obtain ⟨dx, e⟩ := h.ex
  exact ⟨⟨dx, s _ _ e⟩, s.seq h.sq, h.ne, h.lt, h.len, h.le⟩
theorem Rd.get {K : PySem.W.Frag} {C r a : Addr} {H : Hp} {os : List Int} {k : Nat} (h : Rd K C H r a os k) {o : Int} (e : os[k]? = some o) : 0 ≤ o ∧ o < 256 := h.lt o (List.mem_of_getElem? e)
theorem Rd.end_ {K : PySem.W.Frag} {C r a : Addr} {H : Hp} {os : List Int} {k : Nat} (h : Rd K C H r a os k) (e : os[k]? = none) : k = os.length := by
  have := List.getElem?_eq_none_iff.mp e
  have := h.le
  omega
/-- an error with the place e -/
def RdErr (N r : Addr) (H : Hp) (E : XK) (e : Nat) : Prop := ∀ (d : Addr) H', But r H H' → H' d = some (.xd [("place", .int (e : Nat))]) → E (.ref N) (some d) H'
theorem RdErr.pre {N r : Addr} {H H1 : Hp} {E : XK} {e : Nat} (b : But r H H1) (h : RdErr N r H E e) : RdErr N r H1 E e := fun d H' b2 hd => h d H' (b.trans b2) hd
/-- a call: a value, the place moved; or the error -/
def RdRes {α : Type} (K : PySem.W.Frag) (C N r a : Addr) (os : List Int) (H : Hp) (Q : VK) (E : XK) (R : α → V → Hp → Prop) : Except Nat (α × Nat) → Prop
  | .ok (x, k') => ∀ v H', But r H H' → Rd K C H' r a os k' → R x v H' → Q v H'
  | .error e => RdErr N r H E e
theorem lenL {K : PySem.W.Frag} {H : Hp} {a : Addr} {xs : List V} (h : SqL K H a xs) : LenV K (.ref a) H xs.length := .inl ⟨xs, h, rfl⟩
theorem small_int {K : PySem.W.Frag} {C r a : Addr} {H : Hp} {os : List Int} {k : Nat} (h : Rd K C H r a os k) : ((k : Nat) : Int).natAbs < 2 ^ 1000 := by
  have h1 := h.le
  have h2 := h.len
  have h3 : (1000001 : Nat) < 2 ^ 1000 := by decide +kernel
  rw [Int.natAbs_natCast]
  omega
/-! ### mirrors -/
def takeRest (most : Int) : List Int → Nat → Int → Int → Except Nat (Int × Nat)
  | [], k, _, _ => .error k
  | o :: l, k, r, w =>
    if 128 ≤ o then (if r + (o - 128) * w + w * 128 ≤ most then takeRest most l (k + 1) (r + (o - 128) * w) (w * 128) else .error k)
    else if r + o * w ≤ most ∧ (0 < o ∨ w = 1) then .ok (r + o * w, k + 1) else .error k
def takeNum (os : List Int) (b m : Nat) (least most : Int) (k : Nat) : Except Nat (Int × Nat) :=
  match os[k]? with
  | none => .error k
  | some o => if least ≤ o - m ∧ o - m ≤ min ((2 ^ b - 1 : Nat) : Int) most then
      (if o - m < ((2 ^ b - 1 : Nat) : Int) then .ok (o - m, k + 1)
       else (takeRest (most - ((2 ^ b - 1 : Nat) : Int)) (os.drop (k + 1)) (k + 1) 0 1).map fun z => (((2 ^ b - 1 : Nat) : Int) + z.1, z.2))
    else .error k
def takeChars : Nat → List Int → Nat → Except Nat (List Nat × Nat)
  | 0, _, k => .ok ([], k)
  | _ + 1, [], k => .error k
  | n + 1, o :: l, k => if isChar o.toNat then (takeChars n l (k + 1)).map fun z => (o.toNat :: z.1, z.2) else .error k
def takeStr (os : List Int) (b m : Nat) (least most : Int) (k : Nat) : Except Nat (Str × Nat) :=
  match takeNum os b m least most k with
  | .error e => .error e
  | .ok (n, k1) => (takeChars n.toNat (os.drop k1) k1).map fun z => (⟨z.1.toArray⟩, z.2)
theorem takeRest_bound (most : Int) : ∀ (l : List Int) (k : Nat) (r w : Int) (n : Int) (k1 : Nat), 0 ≤ r → 0 ≤ w → (∀ o ∈ l, 0 ≤ o) → takeRest most l k r w = .ok (n, k1) → 0 ≤ n ∧ n ≤ most
  | [], k, r, w, n, k1, _, _, _, h => by rw [takeRest] at h; cases h
  | o :: l, k, r, w, n, k1, hr, hw, ho, h => by
    have ho1 := ho o (List.mem_cons_self ..)
    have hm := Int.mul_nonneg ho1 hw
    rw [takeRest] at h
    by_cases h1 : 128 ≤ o
    · rw [if_pos h1] at h
      by_cases h2 : r + (o - 128) * w + w * 128 ≤ most
      · rw [if_pos h2] at h
        have := Int.mul_nonneg (show 0 ≤ o - 128 by omega) hw
        exact takeRest_bound most l _ _ _ n k1 (by omega) (by omega) (fun x hx => ho x (List.mem_cons_of_mem _ hx)) h
      · rw [if_neg h2] at h; cases h
    · rw [if_neg h1] at h
      by_cases h2 : r + o * w ≤ most ∧ (0 < o ∨ w = 1)
      · rw [if_pos h2] at h
        cases h
        exact ⟨by omega, h2.1⟩
      · rw [if_neg h2] at h; cases h
theorem takeNum_bound (os : List Int) (b m : Nat) (least most : Int) (k : Nat) (hos : ∀ o ∈ os, 0 ≤ o) : ∀ n k1, takeNum os b m least most k = .ok (n, k1) → least ≤ n ∧ n ≤ most := by
  intro n k1 h
  rw [takeNum] at h
  cases ho : os[k]? with
  | none => rw [ho] at h; cases h
  | some o =>
    rw [ho] at h
    dsimp only at h
    have hp0 := pow_pos2 b
    by_cases h1 : least ≤ o - (m : Int) ∧ o - (m : Int) ≤ min ((2 ^ b - 1 : Nat) : Int) most
    · rw [if_pos h1] at h
      by_cases h2 : o - (m : Int) < ((2 ^ b - 1 : Nat) : Int)
      · rw [if_pos h2] at h
        cases h
        omega
      · rw [if_neg h2] at h
        cases ht : takeRest (most - ((2 ^ b - 1 : Nat) : Int)) (os.drop (k + 1)) (k + 1) 0 1 with
        | error z => rw [ht] at h; cases h
        | ok z =>
          rw [ht] at h
          cases h
          have := takeRest_bound _ _ _ _ _ z.1 z.2 (by decide) (by decide) (fun x hx => hos x (List.mem_of_mem_drop hx)) ht
          omega
    · rw [if_neg h1] at h; cases h
def rInt : Int → V → Hp → Prop := fun z v _ => v = .int z
def rStr : Str → V → Hp → Prop := fun x v _ => v = .str x
/-! ### what is promised -/
def sp_Reader_init (K : PySem.W.Frag) : Sp := fun vs H Q _ => ∃ (r a C dx : Addr), vs = [.ref r, .ref a] ∧ H r = some (.ins C dx []) ∧ Cls K C ∧ NoAttr K C "octets" ∧ NoAttr K C "place" ∧
  ∀ H', (∀ b, b ≠ r → H' b = H b) → H' r = some (.ins C dx [("octets", .ref a), ("place", .int 0)]) → Q .non H'
def sp_Reader_at_end (K : PySem.W.Frag) (C : Addr) : Sp := fun vs H Q _ => ∃ (r a : Addr) (os : List Int) (k : Nat), vs = [.ref r] ∧ Rd K C H r a os k ∧ Q (.bl (decide (k = os.length))) H
def sp_Reader_look (K : PySem.W.Frag) (C N : Addr) : Sp := fun vs H Q E => ∃ (r a : Addr) (os : List Int) (k : Nat), vs = [.ref r] ∧ Rd K C H r a os k ∧ (os[k]? = none → RdErr N r H E k) ∧ ∀ o, os[k]? = some o → Q (.int o) H
def sp_Reader_accept (K : PySem.W.Frag) (C N : Addr) : Sp := fun vs H Q E => ∃ (r a : Addr) (os : List Int) (k : Nat) (b : Bool), vs = [.ref r, .bl b] ∧ Rd K C H r a os k ∧ k < os.length ∧ (b = false → RdErr N r H E k) ∧
  (b = true → ∀ H', But r H H' → Rd K C H' r a os (k + 1) → Q .non H')
theorem acc_of {K : PySem.W.Frag} {C N r a : Addr} {os : List Int} {k : Nat} {H : Hp} {Q' : VK} {E : XK} {bb : Bool} {p : Prop} [Decidable p] (R : Rd K C H r a os k) (hlt : k < os.length) (hb : bb = decide p) (h1 : ¬ p → RdErr N r H E k)
    (h2 : p → ∀ H1, But r H H1 → Rd K C H1 r a os (k + 1) → Q' .non H1) : sp_Reader_accept K C N [.ref r, .bl bb] H Q' E :=
  ⟨r, a, os, k, bb, rfl, R, hlt, fun e => h1 (of_decide_eq_false (hb.symm.trans e)), fun e => h2 (of_decide_eq_true (hb.symm.trans e))⟩
theorem RdRes.pre {α : Type} {K : PySem.W.Frag} {C N r a : Addr} {os : List Int} {H H1 : Hp} {Q : VK} {E : XK} {R : α → V → Hp → Prop} {x : Except Nat (α × Nat)} (b : But r H H1) (h : RdRes K C N r a os H Q E R x) : RdRes K C N r a os H1 Q E R x := by
  cases x with
  | error e => exact RdErr.pre b h
  | ok z => exact fun v H' b2 R2 hv => h v H' (b.trans b2) R2 hv
def sp_Reader_finish (K : PySem.W.Frag) (C N : Addr) : Sp := fun vs H Q E => ∃ (r a : Addr) (os : List Int) (k : Nat), vs = [.ref r] ∧ Rd K C H r a os k ∧ (k ≠ os.length → RdErr N r H E k) ∧ (k = os.length → Q .non H)
def sp_Reader_take_rest (K : PySem.W.Frag) (C N : Addr) : Sp := fun vs H Q E => ∃ (r a : Addr) (os : List Int) (k : Nat) (most : Int), vs = [.ref r, .int most] ∧ Rd K C H r a os k ∧ most ≤ 1000000 ∧ RdRes K C N r a os H Q E rInt (takeRest most (os.drop k) k 0 1)
def sp_Reader_take_number (K : PySem.W.Frag) (C N : Addr) : Sp := fun vs H Q E => ∃ (r a : Addr) (os : List Int) (k b m : Nat) (least most : Int), vs = [.ref r, .int (b : Nat), .int (m : Nat), .int least, .int most] ∧ Rd K C H r a os k ∧ b ≤ 8 ∧ most ≤ 1000000 ∧
  RdRes K C N r a os H Q E rInt (takeNum os b m least most k)
def sp_Reader_take_string (K : PySem.W.Frag) (C N : Addr) : Sp := fun vs H Q E => ∃ (r a : Addr) (os : List Int) (k b m : Nat) (least most : Int), vs = [.ref r, .int (b : Nat), .int (m : Nat), .int least, .int most] ∧ Rd K C H r a os k ∧ b ≤ 8 ∧ 0 ≤ least ∧ most ≤ 10000 ∧
  RdRes K C N r a os H Q E rStr (takeStr os b m least most k)
def sp_Reader_take_name (K : PySem.W.Frag) (C N : Addr) : Sp := fun vs H Q E => ∃ (r a : Addr) (os : List Int) (k b m : Nat), vs = [.ref r, .int (b : Nat), .int (m : Nat)] ∧ Rd K C H r a os k ∧ b ≤ 8 ∧ RdRes K C N r a os H Q E rStr (takeStr os b m 1 20 k)
def sp_Reader_take_value (K : PySem.W.Frag) (C N : Addr) : Sp := fun vs H Q E => ∃ (r a : Addr) (os : List Int) (k : Nat), vs = [.ref r] ∧ Rd K C H r a os k ∧ RdRes K C N r a os H Q E rStr (takeStr os 7 0 0 40 k)
end Fld
/-! Instructions and answers: their values, their octets, what is read of octets. -/
namespace Fld
open PySem PySem.Spec PyProof.Rows L2
def sp_is_stream (K : PySem.W.Frag) : Sp := fun vs H Q _ => ∃ (v : V) (t : String), vs = [v] ∧ Kind K H v t ∧ Q (.bl (btw v 0 20)) H
def sp_is_name (K : PySem.W.Frag) : Sp := fun vs H Q _ => ∃ (v : V) (t : String), vs = [v] ∧ Kind K H v t ∧ (∀ x, v = .str x → x.length ≤ 100000) ∧ ∀ H', Same H H' → Q (.bl (txt v 1 20)) H'
/-- a list of any values of a kind, or a value of another kind: what comes for each -/
def AnyL (K : PySem.W.Frag) (H : Hp) (v : V) (Y : List V → Prop) (N : Prop) : Prop :=
  (∃ a xs, v = .ref a ∧ SqL K H a xs ∧ xs.length ≤ 1000000 ∧ (∀ x ∈ xs, ∃ t, Kind K H x t) ∧ Y xs) ∨ ∃ t, Kind K H v t ∧ (t == "list") = false ∧ N
/-- .. the list one of the heap -/
def AnyH (K : PySem.W.Frag) (H : Hp) (v : V) (Y : List V → Prop) (N : Prop) : Prop :=
  (∃ a xs, v = .ref a ∧ H a = some (.lst xs) ∧ xs.length ≤ 1000000 ∧ (∀ x ∈ xs, ∃ t, Kind K H x t) ∧ Y xs) ∨ ∃ t, Kind K H v t ∧ (t == "list") = false ∧ N
def octV (xs : List V) : Bool := xs.all fun x => btw x 0 255
def sp_are_octets (K : PySem.W.Frag) : Sp := fun vs H Q _ => ∃ v, vs = [v] ∧ AnyL K H v (fun xs => ∀ H', Same H H' → Q (.bl (octV xs)) H') (∀ H', Same H H' → Q (.bl false) H')
def sp_check_octets (K : PySem.W.Frag) (N : Addr) : Sp := fun vs H Q E => ∃ v, vs = [v] ∧ AnyL K H v (fun xs => ∀ H', Same H H' → if octV xs = true then Q .non H' else E (.ref N) none H') (∀ H', Same H H' → E (.ref N) none H')
def strOct (x : Str) (b m : Nat) : List Int := numOct x.length b m ++ x.cps.toList.map fun (c : Nat) => (c : Int)
def sp_value_octets : Sp := fun vs H Q _ => ∃ (x : Str), vs = [.str x] ∧ txt (.str x) 0 40 = true ∧ RetInts (strOct x 7 0) H Q
inductive Ins where
  | again (n : Nat) | limit (n : Nat) | fixed (n : Nat) (x : Str) | entry (n : Nat) (x : Str) | new (y x : Str)
def Ins.vs : Ins → List V
  | .again n => [.str "again", .int n]
  | .limit n => [.str "limit", .int n]
  | .fixed n x => [.str "fixed", .int n, .str x]
  | .entry n x => [.str "entry", .int n, .str x]
  | .new y x => [.str "new", .str y, .str x]
def Ins.Ok : Ins → Prop
  | .again n => n ≤ 9999
  | .limit n => n ≤ 9999
  | .fixed n x => n ≤ 9999 ∧ txt (.str x) 0 40 = true
  | .entry n x => n ≤ 9999 ∧ txt (.str x) 0 40 = true
  | .new y x => txt (.str y) 1 20 = true ∧ txt (.str x) 0 40 = true
def Ins.oct : Ins → List Int
  | .again n => numOct n 5 0
  | .limit n => numOct n 5 32
  | .fixed n x => numOct n 6 192 ++ strOct x 7 0
  | .entry n x => numOct n 6 128 ++ strOct x 7 0
  | .new y x => strOct y 5 64 ++ strOct x 7 0
/-- the value v is the instruction i -/
def InsV (K : PySem.W.Frag) (H : Hp) (v : V) (i : Ins) : Prop := ∃ a, v = .ref a ∧ SqT K H a i.vs
inductive Ans where
  | done (n : Nat) | cancelled (n : Nat) | received (n : Nat)
def Ans.vs : Ans → List V
  | .done n => [.str "done", .int n]
  | .cancelled n => [.str "cancelled", .int n]
  | .received n => [.str "received", .int n]
def Ans.Ok : Ans → Prop
  | .done n => n ≤ 20
  | .cancelled n => n ≤ 20
  | .received n => 1 ≤ n ∧ n ≤ 9999
def Ans.oct : Ans → List Int
  | .done n => numOct n 7 128
  | .cancelled n => numOct n 6 64
  | .received n => numOct n 6 0
def AnsV (K : PySem.W.Frag) (H : Hp) (v : V) (i : Ans) : Prop := ∃ a, v = .ref a ∧ SqT K H a i.vs
/-! ### reading -/
def takeSrc (os : List Int) (k : Nat) : Except Nat ((Str ⊕ Bool × Nat) × Nat) :=
  match os[k]? with
  | none => .error k
  | some o => if 192 ≤ o then (takeNum os 6 192 0 9999 k).map fun z => (.inr (true, z.1.toNat), z.2)
    else if 128 ≤ o then (takeNum os 6 128 0 9999 k).map fun z => (.inr (false, z.1.toNat), z.2)
    else (takeStr os 5 64 1 20 k).map fun z => (.inl z.1, z.2)
def srcIns (x : Str) : Str ⊕ Bool × Nat → Ins
  | .inl y => .new y x
  | .inr (true, n) => .fixed n x
  | .inr (false, n) => .entry n x
def takeIns (os : List Int) (k : Nat) : Except Nat (Ins × Nat) :=
  match os[k]? with
  | none => .error k
  | some o => if o < 32 then (takeNum os 5 0 0 9999 k).map fun z => (.again z.1.toNat, z.2)
    else if o < 64 then (takeNum os 5 32 0 9999 k).map fun z => (.limit z.1.toNat, z.2)
    else match takeSrc os k with
      | .error e => .error e
      | .ok (s, k1) => (takeStr os 7 0 0 40 k1).map fun z => (srcIns z.1 s, z.2)
def takeAns (os : List Int) (k : Nat) : Except Nat (Ans × Nat) :=
  match os[k]? with
  | none => .error k
  | some o => if 128 ≤ o then (takeNum os 7 128 0 20 k).map fun z => (.done z.1.toNat, z.2)
    else if 64 ≤ o then (takeNum os 6 64 0 20 k).map fun z => (.cancelled z.1.toNat, z.2)
    else (takeNum os 6 0 1 9999 k).map fun z => (.received z.1.toNat, z.2)
/-- read to the end -/
def whole {α : Type} (os : List Int) (f : List Int → Nat → Except Nat (α × Nat)) : Except Nat α :=
  match f os 0 with
  | .error e => .error e
  | .ok (x, k) => if k = os.length then .ok x else .error k
def srcVs : Str ⊕ Bool × Nat → List V
  | .inl y => [.str "new", .str y]
  | .inr (true, n) => [.str "fixed", .int n]
  | .inr (false, n) => [.str "entry", .int n]
def rSrc (K : PySem.W.Frag) : Str ⊕ Bool × Nat → V → Hp → Prop := fun s v H => ∃ a, v = .ref a ∧ SqT K H a (srcVs s)
def rIns (K : PySem.W.Frag) : Ins → V → Hp → Prop := fun i v H => InsV K H v i
def rAns (K : PySem.W.Frag) : Ans → V → Hp → Prop := fun i v H => AnsV K H v i
def sp_take (K : PySem.W.Frag) (C N : Addr) {α : Type} (f : List Int → Nat → Except Nat (α × Nat)) (R : α → V → Hp → Prop) : Sp := fun vs H Q E => ∃ (r a : Addr) (os : List Int) (k : Nat), vs = [.ref r] ∧ Rd K C H r a os k ∧ RdRes K C N r a os H Q E R (f os k)
def RdEnd {α : Type} (N : Addr) (H : Hp) (Q : VK) (E : XK) (R : α → V → Hp → Prop) : Except Nat α → Prop
  | .ok x => ∀ v H', Same H H' → R x v H' → Q v H'
  | .error e => ∀ (d : Addr) H', Same H H' → H' d = some (.xd [("place", .int (e : Nat))]) → E (.ref N) (some d) H'
def sp_read (K : PySem.W.Frag) (N M : Addr) {α : Type} (f : List Int → Nat → Except Nat (α × Nat)) (R : α → V → Hp → Prop) : Sp := fun vs H Q E => ∃ v, vs = [v] ∧ AnyH K H v
  (fun xs => if octV xs = true then ∃ os : List Int, xs = os.map V.int ∧ RdEnd N H Q E R (whole os f)
   else ∀ H', Same H H' → E (.ref M) none H') (∀ H', Same H H' → E (.ref M) none H')
def sp_is_ins (K : PySem.W.Frag) : Sp := fun vs H Q _ => ∃ (v : V) (i : Ins), vs = [v] ∧ InsV K H v i ∧ i.Ok ∧ ∀ H', Same H H' → Q (.bl true) H'
def sp_write_ins (K : PySem.W.Frag) : Sp := fun vs H Q _ => ∃ (v : V) (i : Ins), vs = [v] ∧ InsV K H v i ∧ i.Ok ∧ RetInts i.oct H Q
def sp_law_ins (K : PySem.W.Frag) : Sp := sp_write_ins K
def sp_is_ans (K : PySem.W.Frag) : Sp := fun vs H Q _ => ∃ (v : V) (i : Ans), vs = [v] ∧ AnsV K H v i ∧ i.Ok ∧ ∀ H', Same H H' → Q (.bl true) H'
def sp_write_ans (K : PySem.W.Frag) : Sp := fun vs H Q _ => ∃ (v : V) (i : Ans), vs = [v] ∧ AnsV K H v i ∧ i.Ok ∧ RetInts i.oct H Q
theorem txt_len20 {x : Str} (h : txt (.str x) 1 20 = true) : 1 ≤ x.length ∧ x.length ≤ 20 := by
  have h' : (decide ((1 : Int) ≤ x.length) && decide ((x.length : Int) ≤ 20) && x.cps.toList.all isChar) = true := h
  rw [Bool.and_eq_true, Bool.and_eq_true] at h'
  have h1 := of_decide_eq_true h'.1.1
  have h2 := of_decide_eq_true h'.1.2
  omega
theorem txt_20 {x : Str} (h : txt (.str x) 1 20 = true) : txt (.str x) 0 40 = true := by
  have := txt_len20 h
  exact txt_of (by omega) (by omega) (txt_all h)
def sp_source_octets : Sp := fun vs H Q _ => ∃ (c : Str) (v : V) (os : List Int), vs = [.str c, v] ∧
  ((∃ n : Nat, c = "fixed" ∧ v = .int n ∧ n ≤ 9999 ∧ os = numOct n 6 192) ∨ (∃ n : Nat, c = "entry" ∧ v = .int n ∧ n ≤ 9999 ∧ os = numOct n 6 128) ∨ ∃ y : Str, c = "new" ∧ v = .str y ∧ txt (.str y) 1 20 = true ∧ os = strOct y 5 64) ∧ RetInts os H Q
theorem RetInts.pre {ns : List Int} {H H1 : Hp} {Q : VK} (s : Same H H1) (h : RetInts ns H Q) : RetInts ns H1 Q := fun p H' hp s2 e => h p H' (s.free hp) (s.trans s2) e
theorem cat_go {a b : List Int} {H H3 : Hp} {Q : VK} {p1 p2 : Addr} (q : RetInts (a ++ b) H Q) (s : Same H H3) (g1 : H3 p1 = some (.lst (a.map V.int))) (g2 : H3 p2 = some (.lst (b.map V.int))) (hl : a.length + b.length ≤ 1000000) : rCat (.ref p1) (.ref p2) H3 Q := by
  refine ⟨p1, p2, _, _, rfl, rfl, g1, g2, by rw [List.length_map, List.length_map, sizeLine_eq]; omega, fun r hr => ?_⟩
  refine q r _ (s.free hr) (s.put (s.free hr)) ?_
  rw [upd_same, List.map_append]
theorem mark0 {b : Nat} (h1 : 1 ≤ b) (h8 : b ≤ 8) : MarkOk b 0 := by
  refine ⟨h1, h8, by decide, ?_⟩
  have : b = 1 ∨ b = 2 ∨ b = 3 ∨ b = 4 ∨ b = 5 ∨ b = 6 ∨ b = 7 ∨ b = 8 := by omega
  rcases this with h | h | h | h | h | h | h | h <;> subst h <;> decide +kernel
theorem strOct_len {x : Str} {b m : Nat} (h : x.length ≤ 40) : (strOct x b m).length ≤ 100 := by
  unfold strOct
  have := numOct_len x.length b m
  rw [List.length_append, List.length_map, ← str_len]
  omega
/-- from a call's result to what is made of it -/
theorem res_map {α β : Type} {K : PySem.W.Frag} {C N r a : Addr} {os : List Int} {H : Hp} {Q Q' : VK} {E : XK} {Ra : α → V → Hp → Prop} {Rb : β → V → Hp → Prop} {x : Except Nat (α × Nat)} {f : α × Nat → β × Nat}
    (q : RdRes K C N r a os H Q E Rb (x.map f)) (hf : ∀ z, (f z).2 = z.2) (h : ∀ z v H1, x = .ok z → But r H H1 → Rd K C H1 r a os z.2 → Ra z.1 v H1 → (∀ v' H2, Same H1 H2 → Rb (f z).1 v' H2 → Q v' H2) → Q' v H1) : RdRes K C N r a os H Q' E Ra x := by
  cases x with
  | error e => exact q
  | ok z =>
    intro v H1 b1 R1 hv
    refine h z v H1 rfl b1 R1 hv fun v' H2 s2 hv' => q v' H2 (b1.trans (But.of s2)) ?_ hv'
    rw [hf z]
    exact R1.keep s2
theorem oct_list {xs : List V} (h : octV xs = true) : ∃ os : List Int, xs = os.map V.int ∧ ∀ o ∈ os, 0 ≤ o ∧ o < 256 := by
  induction xs with
  | nil => exact ⟨[], rfl, fun o ho => nomatch ho⟩
  | cons x xs ih =>
    have h' : (btw x 0 255 && octV xs) = true := h
    rw [Bool.and_eq_true] at h'
    obtain ⟨os, e, ho⟩ := ih h'.2
    cases x with
    | int i =>
      have h2 : (decide ((0 : Int) ≤ i) && decide (i ≤ 255)) = true := h'.1
      rw [Bool.and_eq_true] at h2
      have h3 := of_decide_eq_true h2.1
      have h4 := of_decide_eq_true h2.2
      refine ⟨i :: os, by rw [e]; rfl, fun o hm => ?_⟩
      rcases List.mem_cons.mp hm with z | z
      · subst z; omega
      · exact ho o z
    | _ => exact nomatch (show false = true from h'.1)
theorem same_but {r : Addr} {H H1 H2 : Hp} (hr : H r = none) (s : Same H H1) (b : But r H1 H2) : Same H H2 := fun c o e => b c o (ne_of_none e hr) (s c o e)
end Fld
/-! data apart from the pen: what is drawn, what is laid new -/
namespace Fld
open PySem PySem.Spec PyProof.Rows L2
/-- the heap but for some objects -/
def OffS (S : List Addr) (H : Hp) : Hp := fun b => if b ∈ S then none else H b
/-- these objects are there -/
def Hid (S : List Addr) (H : Hp) : Prop := ∀ b ∈ S, H b ≠ none
section
variable {K : PySem.W.Frag} {p c q : Addr} {H H' H1 H2 : Hp} {o : HO} {n m : Nat} {S : List Addr}
theorem off_sub (S : List Addr) (H : Hp) : Same (OffS S H) H := fun b u e => by
  unfold OffS at e
  by_cases h : b ∈ S
  · rw [if_pos h] at e; cases e
  · rw [if_neg h] at e; exact e
theorem off_ne {b : Addr} (h : b ∉ S) : OffS S H b = H b := by unfold OffS; rw [if_neg h]
theorem off_get {b : Addr} (h : OffS S H b = some o) : b ∉ S ∧ H b = some o := by
  unfold OffS at h
  by_cases e : b ∈ S
  · rw [if_pos e] at h; cases h
  · rw [if_neg e] at h; exact ⟨e, h⟩
theorem But.off (b : But p H H') (hp : p ∈ S) : Same (OffS S H) (OffS S H') := fun a u e => by
  obtain ⟨n, e⟩ := off_get e
  rw [off_ne n]
  exact b a u (fun z => n (z ▸ hp)) e
theorem _root_.L2.Same.off (s : Same H H') : Same (OffS S H) (OffS S H') := fun a u e => by
  obtain ⟨n, e⟩ := off_get e
  rw [off_ne n]
  exact s a u e
theorem Drew.off (d : Drew p c H H' n) (hp : p ∈ S) : Same (OffS S H) (OffS S H') := d.but.off hp
theorem Dv.on {v : V} {d : PyData} (h : Dv K (OffS S H) v d) : Dv K H v d := h.keep (off_sub S H)
theorem DvAll.on {v : List V} {d : List PyData} (h : DvAll K (OffS S H) v d) : DvAll K H v d := h.keep (off_sub S H)
theorem Hid.keep (h : Hid S H) (s : Same H H') : Hid S H' := fun b hb => by
  cases e : H b with
  | none => exact absurd e (h b hb)
  | some u => rw [s b u e]; exact fun z => nomatch z
theorem Pen.some_ (h : Pen H p c n) : H p ≠ none := by
  obtain ⟨⟨xs, e⟩, _⟩ := h.some
  rw [e]; exact fun z => nomatch z
theorem Hid.drew (h : Hid S H) (d : Drew p c H H' n) : Hid S H' := fun b hb => by
  by_cases z : b = p
  · rw [z]; exact d.pen.some_
  · cases e : H b with
    | none => exact absurd e (h b hb)
    | some u => rw [d.but b u z e]; exact fun z => nomatch z
theorem Hid.one (h : Pen H p c n) : Hid [p] H := fun b hb => by rw [List.mem_singleton.mp hb]; exact h.some_
theorem Hid.nil : Hid [] H := fun b hb => nomatch hb
theorem Hid.cons (h : Hid S H) (hq : H q ≠ none) : Hid (q :: S) H := fun b hb => by
  rcases List.mem_cons.mp hb with rfl | hb
  · exact hq
  · exact h b hb
theorem Hid.not (h : Hid S H) (hq : H q = none) : q ∉ S := fun z => h q z hq
theorem Hid.upd (h : Hid S H) : Hid S (L2.upd H q o) := fun b hb => by
  by_cases z : b = q
  · rw [z, upd_same]; exact fun z => nomatch z
  · rw [upd_ne z]; exact h b hb
/-- a new object is laid beside the hidden ones -/
theorem off_new (hq : H q = none) (hS : Hid S H) : OffS S (upd H q o) q = some o := by rw [off_ne (hS.not hq), upd_same]
theorem new_lst {xs : List V} {ds : List PyData} (hq : H q = none) (hS : Hid S H) (h : DvAll K (OffS S H) xs ds) : Dv K (OffS S (upd H q (.lst xs))) (.ref q) (.list ds) := .lst (SqL.of (off_new hq hS)) (h.keep (Same.new hq).off)
theorem new_tup {xs : List V} {ds : List PyData} (hq : H q = none) (hS : Hid S H) (h : DvAll K (OffS S H) xs ds) : Dv K (OffS S (upd H q (.tup xs))) (.ref q) (.tuple ds) := .tup (SqT.of (off_new hq hS)) (h.keep (Same.new hq).off)
theorem new_dic (hq : H q = none) (hS : Hid S H) : Dv K (OffS S (upd H q (.dK []))) (.ref q) (.dict []) := .dic (off_new hq hS) rfl .nil
theorem at_lst {a : Addr} {xs : List V} {ds : List PyData} (h : H a = some (.lst xs)) (hn : a ∉ S) (d : DvAll K (OffS S H) xs ds) : Dv K (OffS S H) (.ref a) (.list ds) := .lst (SqL.of (by rw [off_ne hn]; exact h)) d
theorem at_tup {a : Addr} {xs : List V} {ds : List PyData} (h : H a = some (.tup xs)) (hn : a ∉ S) (d : DvAll K (OffS S H) xs ds) : Dv K (OffS S H) (.ref a) (.tuple ds) := .tup (SqT.of (by rw [off_ne hn]; exact h)) d
/-- a hidden object turns, and is hidden no more -/
theorem off_put : Same (OffS (q :: S) H) (OffS S (upd H q o)) := fun b u e => by
  obtain ⟨n, e⟩ := off_get e
  have nq : b ≠ q := fun z => n (by rw [z]; exact List.mem_cons_self ..)
  rw [off_ne fun z => n (List.mem_cons_of_mem _ z), upd_ne nq]
  exact e
theorem off_more (hq : H q = none) : Same (OffS S H) (OffS (q :: S) H) := fun b u e => by
  obtain ⟨n, e⟩ := off_get e
  rw [off_ne fun z => ?_]
  · exact e
  · rcases List.mem_cons.mp z with rfl | z
    · rw [hq] at e; cases e
    · exact n z
theorem off_less : Same (OffS (q :: S) H) (OffS S H) := fun b u e => by
  obtain ⟨n, e⟩ := off_get e
  rw [off_ne fun z => n (List.mem_cons_of_mem _ z)]
  exact e
theorem Pen.new (h : Pen H p c n) (hq : H q = none) : Pen (L2.upd H q o) p c n := h.keep (Same.new hq)
theorem DvAll.mem {xs : List V} {ds : List PyData} {x : V} (h : DvAll K H xs ds) (hx : x ∈ xs) : ∃ d ∈ ds, Dv K H x d := by
  obtain ⟨i, hi, rfl⟩ := List.mem_iff_getElem.mp hx
  obtain ⟨d, hd, hv⟩ := h.at (i := i) (x := xs[i]) (by simp)
  exact ⟨d, List.mem_of_getElem? hd, hv⟩
theorem DvAll.of : ∀ {xs : List V}, (∀ x ∈ xs, ∃ d, Dv K H x d) → ∃ ds, DvAll K H xs ds
  | [], _ => ⟨[], .nil⟩
  | x :: xs, h => by
    obtain ⟨d, hd⟩ := h x (List.mem_cons_self ..)
    obtain ⟨ds, hds⟩ := DvAll.of (xs := xs) fun y hy => h y (List.mem_cons_of_mem _ hy)
    exact ⟨d :: ds, .cons hd hds⟩
theorem DvAll.rep {x : V} {d : PyData} (h : Dv K H x d) : ∀ k : Nat, DvAll K H (List.replicate k x) (List.replicate k d)
  | 0 => .nil
  | k + 1 => .cons h (DvAll.rep h k)
end
/-- data that is small: at most d deep, at most b of weight -/
structure Sz (b k : Nat) (d : PyData) : Prop where
  ok : okV d = true
  w : wV d ≤ b
  dp : d.depth ≤ k
theorem Sz.mono {b k b' k' : Nat} {d : PyData} (h : Sz b k d) (l1 : b ≤ b') (l2 : k ≤ k') : Sz b' k' d := ⟨h.ok, Nat.le_trans h.w l1, Nat.le_trans h.dp l2⟩
theorem depthAll_le {k : Nat} : ∀ {ds : List PyData}, (∀ d ∈ ds, d.depth ≤ k) → PyData.depthAll ds ≤ k
  | [], _ => by rw [PyData.depthAll]; omega
  | d :: ds, h => by
    rw [PyData.depthAll]
    have h1 := h d (List.mem_cons_self ..)
    have h2 := depthAll_le (ds := ds) fun e he => h e (List.mem_cons_of_mem _ he)
    omega
theorem depthAll_mem : ∀ {ds : List PyData} {d : PyData}, d ∈ ds → d.depth ≤ PyData.depthAll ds
  | e :: ds, d, h => by
    rw [PyData.depthAll]
    rcases List.mem_cons.mp h with rfl | h
    · omega
    · have := depthAll_mem h; omega
def SzAll (k : Nat) (ds : List PyData) : Prop := okVAll ds = true ∧ PyData.depthAll ds ≤ k
theorem sz_tup {b k : Nat} {ds : List PyData} (h : Sz b (k + 1) (.tuple ds)) : okVAll ds = true ∧ wVAll ds + 4 ≤ b ∧ PyData.depthAll ds ≤ k := by
  obtain ⟨h1, h2, h3⟩ := h
  rw [okV] at h1
  rw [wV] at h2
  rw [PyData.depth] at h3
  exact ⟨h1, h2, by omega⟩
theorem sz_lst {b k : Nat} {ds : List PyData} (h : Sz b (k + 1) (.list ds)) : okVAll ds = true ∧ wVAll ds + 4 ≤ b ∧ PyData.depthAll ds ≤ k := by
  obtain ⟨h1, h2, h3⟩ := h
  rw [okV] at h1
  rw [wV] at h2
  rw [PyData.depth] at h3
  exact ⟨h1, h2, by omega⟩
theorem sz_tup' {b k : Nat} {ds : List PyData} (h1 : okVAll ds = true) (h2 : wVAll ds + 4 ≤ b) (h3 : PyData.depthAll ds ≤ k) : Sz b (k + 1) (.tuple ds) := ⟨by rw [okV]; exact h1, by rw [wV]; exact h2, by rw [PyData.depth]; omega⟩
theorem sz_lst' {b k : Nat} {ds : List PyData} (h1 : okVAll ds = true) (h2 : wVAll ds + 4 ≤ b) (h3 : PyData.depthAll ds ≤ k) : Sz b (k + 1) (.list ds) := ⟨by rw [okV]; exact h1, by rw [wV]; exact h2, by rw [PyData.depth]; omega⟩
theorem sz_str {x : Str} {b : Nat} (h : x.cps.toList.all (fun c => decide (c < 4294967296)) = true) (hl : x.length ≤ 100000) (hb : 10 * x.length + 2 ≤ b) : Sz b 0 (.str x) := ⟨by rw [okV, h, decide_eq_true hl]; rfl, by rw [wV]; exact hb, by rw [PyData.depth]; omega⟩
theorem chars_small {x : Str} (h : x.cps.toList.all isChar = true) : x.cps.toList.all (fun c => decide (c < 4294967296)) = true := by
  rw [List.all_eq_true] at h ⊢
  intro c hc
  have h1 : charCodes.all (fun c => decide (c < 4294967296)) = true := by decide
  exact List.all_eq_true.mp h1 c (List.contains_iff_mem.mp (h c hc))
theorem sz_txt {x : Str} {a : Int} {b : Nat} (h : txt (.str x) a (b : Nat) = true) (hb : b ≤ 100000 := by decide) : Sz (10 * b + 2) 0 (.str x) := by
  have h2 := txt_all h
  have h' : (decide (a ≤ (x.length : Int)) && decide ((x.length : Int) ≤ (b : Nat)) && x.cps.toList.all isChar) = true := h
  simp only [Bool.and_eq_true, decide_eq_true_eq] at h'
  exact sz_str (chars_small h2) (by omega) (by omega)
theorem sz_int {i : Int} (h : i.natAbs < 2 ^ 1000 := by decide +kernel) : Sz 1010 0 (.int i) := ⟨decide_eq_true h, Nat.le_refl _, by rw [PyData.depth]; omega⟩
/-! ### what a draw of any data promises -/
/-- k draws at most; data of weight b at most, d deep at most -/
def sp_drawV (K : PySem.W.Frag) (k b e : Nat) (f : PyData → Prop) : Sp := fun vs H Q _ => ∃ (p c : Addr) (n : Nat) (S : List Addr), vs = [.ref p] ∧ Pen H p c n ∧ n ≤ 700000 ∧ p ∈ S ∧ Hid S H ∧
  ∀ (v : V) (d : PyData) H', Dv K (OffS S H') v d → Sz b e d → f d → Drew p c H H' (n + k) → Q v H'
/-- one of a text's signs -/
def sp_one_str : Sp := fun vs H Q _ => ∃ (p c : Addr) (n : Nat) (z : Str), vs = [.ref p, .str z] ∧ Pen H p c n ∧ 0 < z.length ∧ z.length ≤ 1000 ∧ n ≤ 900000 ∧ ∀ (x : Nat) H', x ∈ z.cps.toList → Drew p c H H' (n + 1) → Q (.str ⟨#[x]⟩) H'
def otherSigns : Str := "!#$&'()*+,<>?@ABCDEFGHIJKLMNOPQRSTUVWXYZ[]^_`{|}~\"\\"
theorem other_small : otherSigns.cps.toList.all (fun c => decide (c < 4294967296)) = true := by decide +kernel
theorem small_app {x y : Str} (hx : x.cps.toList.all (fun c => decide (c < 4294967296)) = true) (hy : y.cps.toList.all (fun c => decide (c < 4294967296)) = true) : (x ++ y).cps.toList.all (fun c => decide (c < 4294967296)) = true := by
  have e : (x ++ y).cps.toList = x.cps.toList ++ y.cps.toList := by
    show (x.cps ++ y.cps).toList = _
    simp
  rw [e, List.all_append, hx, hy]; rfl
theorem small_cut {x : Str} {a b : Option Int} (hx : x.cps.toList.all (fun c => decide (c < 4294967296)) = true) : (cutS x a b).cps.toList.all (fun c => decide (c < 4294967296)) = true := by
  rw [List.all_eq_true] at hx ⊢
  intro c hc
  unfold cutS at hc
  exact hx c (List.mem_of_mem_drop (List.mem_of_mem_take hc))
theorem cutS_len (x : Str) (a b : Option Int) : (cutS x a b).length ≤ x.length := by
  unfold cutS
  show ((x.cps.toList.drop _).take _).toArray.size ≤ x.cps.size
  simp only [List.size_toArray, List.length_take, List.length_drop, Array.length_toList]
  omega
end Fld
namespace Fld
open PySem PySem.Spec PyProof.Rows L2
/-- a value with one part changed, or another: no more than one deeper, at most twice the weight -/
def sp_bent (K : PySem.W.Frag) (M : Nat) : Sp := fun vs H Q _ => ∃ (p c : Addr) (n : Nat) (v : V) (d : PyData) (b e : Nat) (S : List Addr), vs = [.ref p, v] ∧ Pen H p c n ∧ n + 100 * (e + 1) ≤ 600000 ∧ p ∈ S ∧ Hid S H ∧ Dv K (OffS S H) v d ∧ Sz b e d ∧ e ≤ M ∧ M ≤ 20 ∧ b ≤ 100000 ∧
  ∀ (v' : V) (d' : PyData) H', Dv K (OffS S H') v' d' → Sz (2 * b + 2000) (e + 1) d' → Drew p c H H' (n + 100 * (e + 1)) → Q v' H'
def sp_bent_sub (K : PySem.W.Frag) : Nat → Sp
  | 0 => fun _ _ _ _ => False
  | m + 1 => sp_bent K m
theorem wVAll_set : ∀ {ds : List PyData} {i : Nat} {d e : PyData}, ds[i]? = some d → wVAll (ds.set i e) + wV d = wVAll ds + wV e
  | [], _, _, _, h => by simp at h
  | x :: xs, 0, d, e, h => by
    simp at h; subst h
    rw [List.set_cons_zero, wVAll, wVAll]
    omega
  | x :: xs, i + 1, d, e, h => by
    have := wVAll_set (ds := xs) (i := i) (d := d) (e := e) (by simpa using h)
    rw [List.set_cons_succ, wVAll, wVAll]; omega
theorem okVAll_set {ds : List PyData} {i : Nat} {e : PyData} (h : okVAll ds = true) (he : okV e = true) : okVAll (ds.set i e) = true := by
  refine okVAll_of fun d hd => ?_
  rcases List.mem_or_eq_of_mem_set hd with h1 | rfl
  · exact okVAll_mem h h1
  · exact he
theorem depthAll_set {k : Nat} {ds : List PyData} {i : Nat} {e : PyData} (h : PyData.depthAll ds ≤ k) (he : e.depth ≤ k) : PyData.depthAll (ds.set i e) ≤ k := by
  refine depthAll_le fun d hd => ?_
  rcases List.mem_or_eq_of_mem_set hd with h1 | rfl
  · exact Nat.le_trans (depthAll_mem h1) h
  · exact he
theorem wVAll_erase : ∀ (ds : List PyData) (i : Nat), wVAll (ds.eraseIdx i) ≤ wVAll ds
  | [], _ => Nat.le_refl _
  | x :: xs, 0 => by rw [List.eraseIdx_cons_zero, wVAll]; omega
  | x :: xs, i + 1 => by have := wVAll_erase xs i; rw [List.eraseIdx_cons_succ, wVAll, wVAll]; omega
theorem DvAll.erase {K : PySem.W.Frag} {H : Hp} : ∀ {xs : List V} {ds : List PyData} (i : Nat), DvAll K H xs ds → DvAll K H (xs.eraseIdx i) (ds.eraseIdx i)
  | _, _, _, .nil => .nil
  | _, _, 0, .cons _ t => t
  | _, _, i + 1, .cons q t => .cons q (DvAll.erase i t)
theorem okVAll_erase {ds : List PyData} {i : Nat} (h : okVAll ds = true) : okVAll (ds.eraseIdx i) = true := okVAll_of fun d hd => okVAll_mem h (List.mem_of_mem_eraseIdx hd)
theorem depthAll_erase {k : Nat} {ds : List PyData} {i : Nat} (h : PyData.depthAll ds ≤ k) : PyData.depthAll (ds.eraseIdx i) ≤ k := depthAll_le fun d hd => Nat.le_trans (depthAll_mem (List.mem_of_mem_eraseIdx hd)) h
def insD (ds : List PyData) (i : Nat) (d : PyData) : List PyData := ds.take i ++ [d] ++ ds.drop i
theorem wVAll_ins (ds : List PyData) (i : Nat) (d : PyData) : wVAll (insD ds i d) = wVAll ds + wV d + 2 := by
  unfold insD
  rw [wVAll_app, wVAll_app]
  have e : wVAll ds = wVAll (ds.take i) + wVAll (ds.drop i) := by rw [← wVAll_app, List.take_append_drop]
  have e2 : wVAll [d] = wV d + 2 := by rw [wVAll, wVAll]
  omega
theorem ins_mem {ds : List PyData} {i : Nat} {d x : PyData} (h : x ∈ insD ds i d) : x ∈ ds ∨ x = d := by
  unfold insD at h
  rcases List.mem_append.mp h with h | h
  · rcases List.mem_append.mp h with h | h
    · exact .inl (List.mem_of_mem_take h)
    · exact .inr (List.mem_singleton.mp h)
  · exact .inl (List.mem_of_mem_drop h)
theorem okVAll_ins {ds : List PyData} {i : Nat} {d : PyData} (h : okVAll ds = true) (hd : okV d = true) : okVAll (insD ds i d) = true := okVAll_of fun x hx => by
  rcases ins_mem hx with h1 | rfl
  · exact okVAll_mem h h1
  · exact hd
theorem depthAll_ins {k : Nat} {ds : List PyData} {i : Nat} {d : PyData} (h : PyData.depthAll ds ≤ k) (hd : d.depth ≤ k) : PyData.depthAll (insD ds i d) ≤ k := depthAll_le fun x hx => by
  rcases ins_mem hx with h1 | rfl
  · exact Nat.le_trans (depthAll_mem h1) h
  · exact hd
theorem DvAll.ins {K : PySem.W.Frag} {H : Hp} {xs : List V} {ds : List PyData} {x : V} {d : PyData} (i : Nat) (h : DvAll K H xs ds) (hx : Dv K H x d) : DvAll K H (xs.take i ++ [x] ++ xs.drop i) (insD ds i d) := ((h.take i).app (.cons hx .nil)).app (h.drop i)
theorem depth0 {d : PyData} (h : d.depth ≤ 0) : isTup d = false ∧ isLst d = false := by
  cases d with
  | list l => rw [PyData.depth] at h; omega
  | tuple l => rw [PyData.depth] at h; omega
  | _ => exact ⟨rfl, rfl⟩
end Fld
namespace Fld
open PySem PySem.Spec PyProof.Rows L2
theorem with_leaf {G : Prop} {R : Hp → Prop} (Body : Hp → Prop) (h : ∀ H1, R H1 → Body H1) (m : (∀ H1, R H1 → Body H1) → G) : G := m h
/-- a tuple or a list, its items -/
theorem Dv.seqs {K : PySem.W.Frag} {H : Hp} {v : V} {d : PyData} (h : Dv K H v d) (e : (subT (tyD d) "tuple" || subT (tyD d) "list") = true) :
    ∃ a xs ds, v = .ref a ∧ ((SqT K H a xs ∧ d = .tuple ds) ∨ (SqL K H a xs ∧ d = .list ds)) ∧ DvAll K H xs ds := by
  rw [sub_tup, sub_lst] at e
  cases h <;> first | cases e | skip
  · rename_i hs ha
    exact ⟨_, _, _, rfl, .inr ⟨hs, rfl⟩, ha⟩
  · rename_i hs ha
    exact ⟨_, _, _, rfl, .inl ⟨hs, rfl⟩, ha⟩
theorem seq_len {K : PySem.W.Frag} {H : Hp} {a : Addr} {xs : List V} {P Q : Prop} (h : (SqT K H a xs ∧ P) ∨ (SqL K H a xs ∧ Q)) : LenV K (.ref a) H xs.length := by
  rcases h with h | h
  · exact .inr ⟨_, h.1, rfl⟩
  · exact .inl ⟨_, h.1, rfl⟩
theorem ixN_n {n i : Nat} (h : i < n) : ixN n (i : Int) = some i := Evl.ixN_nat h
end Fld
namespace Fld
open PySem PySem.Spec PyProof.Rows L2
section
variable {K : PySem.W.Frag} {p c q D : Addr} {H H' H1 H2 Ha H4 : Hp} {o : HO} {n m k b e : Nat} {S : List Addr} {f : PyData → Prop}
theorem off_hid (h : q ∈ S) : Same (OffS S H) (OffS S (upd H q o)) := fun a u e => by
  obtain ⟨n, e⟩ := off_get e
  have na : a ≠ q := fun z => n (by rw [z]; exact h)
  rw [off_ne n, upd_ne na]
  exact e
/-- a list of drawn data under way at D -/
structure LcI (K : PySem.W.Frag) (p c D : Addr) (S : List Addr) (Ha : Hp) (n k b e : Nat) (f : PyData → Prop) (i : Nat) (ys : List V) (H' : Hp) : Prop where
  drew : Drew p c Ha H' (n + k * i)
  ex : ∃ ds, DvAll K (OffS (D :: S) H') ys ds ∧ ∀ d ∈ ds, Sz b e d ∧ f d
theorem LcI.start (hp : Pen Ha p c n) (hD : Ha D = none) : LcI K p c D S Ha n k b e f 0 [] (upd Ha D (.lst [])) :=
  ⟨⟨(hp.new hD).mono (by omega), But.new hD⟩, [], .nil, fun d hd => nomatch hd⟩
theorem LcI.step {i : Nat} {ys : List V} {v : V} {d : PyData} (I : LcI K p c D S Ha n k b e f i ys H') (hp : Pen Ha p c n) (pS : p ∈ S) (hD : Ha D = none) (g : H' D = some (.lst ys)) (hv : Dv K (OffS (D :: S) H4) v d) (hz : Sz b e d) (hf : f d) (h4 : Drew p c H' H4 (n + k * i + k)) :
    H4 D = some (.lst ys) ∧ LcI K p c D S Ha n k b e f (i + 1) (ys ++ [v]) (upd H4 D (.lst (ys ++ [v]))) := by
  have nD : D ≠ p := fun z => hp.some_ (z ▸ hD)
  have nC : c ≠ D := hp.nec hD
  obtain ⟨ds, hds, ha⟩ := I.ex
  refine ⟨h4.but _ _ nD g, ⟨⟨(h4.pen.upd (fun z => nD z.symm) nC).mono (by rw [Nat.mul_succ]; omega), (I.drew.but.trans h4.but).put hD⟩, ds ++ [d], ?_, ?_⟩⟩
  · exact (((hds.keep (h4.off (List.mem_cons_of_mem _ pS))).app (.cons hv .nil))).keep (off_hid (List.mem_cons_self ..))
  · intro x hx
    rcases List.mem_append.mp hx with h | h
    · exact ha x h
    · rw [List.mem_singleton.mp h]; exact ⟨hz, hf⟩
end
end Fld
/-! an error that an except clause hands to a local: it stays known behind the clause; isinstance of it -/
namespace Fld
open PySem PySem.Spec PyProof.Rows L2
/-- a caught error of the class cls, its own dict d, at a -/
def ExK (cls : Value) (d : Option Addr) (a : Addr) : HO := .ext fun h => ∃ (oe : Obj) (vs : Array Value), h.get? a = some oe ∧ Zc cls d oe ∧ oe.data = .fields vs
section
variable {X : Cx} {pins : List (Addr × Obj)} {σ : L2.St} {H : Hp} {s : Shared} {a : Addr} {oe : Obj} {cls : Value} {d : Option Addr}
theorem adopt (I : Inv X pins σ H s) (ha : s.heap.get? a = some oe) (hz : Zc cls d oe) (hf : ∃ vs, oe.data = .fields vs) (na : H a = none) (n0 : X.s_0.heap.get? a = none) (nL : a ≠ X.env.locals) (np : ∀ p ∈ X.pn ++ pins, p.1 ≠ a) :
    Inv X pins σ (upd H a (ExK cls d a)) s := by
  obtain ⟨vs, hv⟩ := hf
  have nw : ObjOk X.prog X.w (upd H a (ExK cls d a)) s.heap a (ExK cls d a) := ⟨⟨oe, vs, ha, hz, hv⟩, ⟨oe, ha⟩, fun h1 h2 ⟨o, v, q1, q2⟩ k => ⟨o, v, k o q1, q2⟩⟩
  have b := I.base
  have apart : ∀ c o, X.s_0.heap.get? c = some o → c ≠ a := fun c o e z => by rw [z, n0] at e; cases e
  have got : ∀ (c : Addr) (u : HO), H c = some u → upd H a (ExK cls d a) c = some u := fun c u e => by rw [upd_ne (ne_of_none e na)]; exact e
  refine ⟨I.ok, I.os, I.bare, ⟨b.keep, b.slot, fun c o e n hx => ?_, b.there, fun c xs e => got _ _ (b.tups c xs e), fun c o u e => got _ _ (b.frzs c o u e), fun c ps e => ?_⟩, I.loc, I.cell, ?_, fun x c e => ?_, fun p hp => ?_, ?_, I.len⟩
  · rw [upd_ne (apart c o e)]
    exact b.free c o e n hx
  · obtain ⟨m, e2⟩ := b.tbls c ps e
    exact ⟨m, got _ _ e2⟩
  · rw [upd_ne (Ne.symm nL)]
    exact I.free
  · obtain ⟨v, o, e1, e2⟩ := I.cell x c e
    have nc : c ≠ a := fun z => by
      rw [z, ha] at e1
      cases e1
      rw [hv] at e2
      simp at e2
    rw [upd_ne nc]
    exact I.freeC x c e
  · obtain ⟨q1, q2, q3⟩ := I.pin p hp
    exact ⟨q1, by rw [upd_ne (np p hp)]; exact q2, q3⟩
  · exact I.hok.laidN (fun _ _ z => z) na nw
end
/-- what a clause 'except x as n' wishes, whose error stays known -/
def wKeep (K : PySem.W.Frag) (c : Value) (i : Nat) (ts : Addr → Value → Option Addr → TS) (Wout : WX) (D : Ends) : WX := fun cls d σ H =>
  ∃ b, PySem.W.exmOne K cls c = some b ∧ (b = true → ∀ a, H a = none → ts a cls d { nx := fun σ' H' => H' a = none → D.nx (σ'.set i none) (upd H' a (ExK cls d a)), rt := D.rt, bk := fun σ' H' => D.bk (σ'.set i none) H', ct := fun σ' H' => D.ct (σ'.set i none) H' } (σ.set i (some (.ref a))) H) ∧
    (b = false → Wout cls d σ H)
end Fld
namespace Fld
open PySem PySem.Spec PyProof.Rows L2
section
variable {X : Cx} {x n : Str} {c : Value} {i : Nat} {body suite : List Stmt} {b0 : Stmt} {np pos pos' : Pos} {tb : WX → TS} {ts : Addr → Value → Option Addr → TS} {Wout : WX}
theorem keep_catch {pins : List (Addr × Obj)} {s' : Shared} {D : Ends} {u : Value} (okX : X.Ok) (hst : X.stack = X.env :: X.outer) (hfm : X.env.frame = some X.env.locals) (nod : X.N.Nodup) (hix : X.N[i]? = some n) (lcl : X.env.kindOf n = some .local) (nam : Names X x c) (hex : X.ex = []) (tko : Takes X Wout)
    (su : ∀ (a : Addr) (oe : Obj) (cls : Value) (d : Option Addr) (pn : List (Addr × Obj)), Zc cls d oe → (∃ vs, oe.data = .fields vs) → PSs (X.suite a ((a, oe) :: pn)) (b0 :: suite) (ts a cls d))
    {xe : Value → Shared → Prop} (xx : XE (X.tr (X.pn ++ pins) xe) (wKeep X.K c i ts Wout D) u s') :
    wpAny (model X.prog X.w) X.A (noteFrame u X.env) (fun _ s2 => wpAny (model X.prog X.w) X.A (setFlight u none) (fun _ s3 =>
      wpAny (model X.prog X.w) X.A (handleBy u X.env [.ExceptHandler (some (.Name x np)) (some n) (b0 :: suite) pos']) (SP X pins D) X.xe s3) X.xe s2) X.xe s' := by
  obtain ⟨a, B, sI, pin2, σ1, H1, cls, d, rfl, Jt, nbB, upS, skyT, noA, eOs, eAg, bb, exB, whenT, whenF⟩ := xx
  have JJ : Inv X pins σ1 H1 sI := Jt.ofTry okX
  have fr2 : X.A.frames = some (X.env :: X.outer) := by rw [okX.frames, hst]
  have vis2 : Loc X.env.scope n := Or.inl lcl
  have skyX : Sky B (X.env :: X.outer) a (Zc cls d) X.env.locals s'.heap := by rw [← hst]; exact skyT
  refine Sky.land Zc.steady fr2 hfm skyX fun hA flA upA => ?_
  have JA : Inv X pins σ1 H1 { s' with heap := hA } := JJ.landed nbB flA.1 (upS.trans upA) eOs eAg
  obtain ⟨oeA, vsA, atA, zcA, dtA⟩ := flA.there
  have offFr : a ∉ frs (X.env :: X.outer) := fun hm => by
    obtain ⟨_, o', e', hnf⟩ := flA.2.2.1.mem hm
    rw [atA] at e'
    cases e'
    exact hnf _ dtA
  have offL : a ≠ X.env.locals := fun z => offFr (List.mem_filterMap.mpr ⟨X.env, .head _, by rw [hfm, z]⟩)
  have offF : a ∉ X.fs := fun hm => by
    obtain ⟨e, he, q⟩ := List.mem_filterMap.mp hm
    exact offFr (List.mem_filterMap.mpr ⟨e, .tail _ he, q⟩)
  have newA : sI.heap.get? a = none := by
    cases q : sI.heap.get? a with
    | none => rfl
    | some o =>
      have := nbB a o q (by show a ∉ frs X.stack; rw [hst]; exact offFr)
      rw [flA.2.1] at this
      cases this
  have s0A : X.s_0.heap.get? a = none := by
    cases q : X.s_0.heap.get? a with
    | none => rfl
    | some o =>
      obtain ⟨o', e'⟩ := JJ.base.there a o q (by rw [hex]; exact fun z => nomatch z)
      rw [newA] at e'
      cases e'
  have apart : ∀ p ∈ X.pn ++ pins, p.1 ≠ a := fun p hp z => by
    have hq : p ∈ (X.pn ++ pins) ++ pin2 := List.mem_append.mpr (.inl hp)
    have := (Jt.pin p hq).1
    rw [z, newA] at this
    cases this
  have SA := JA.suite atA dtA noA offL offF
  refine wpAny_handleBy_cons (codeAny_handlers_test ?_) (fun q => by cases q)
  have LKa : PySem.W.Looks (model X.prog X.w) hA (typeOf (.ref a)) cls := fun A2 Q2 E2 s2 k2 q2 => wpAny_typeOf_ref (k2 _ _ atA) (by rw [zcA.1]; exact q2)
  have LKm := PySem.W.exm_one (M := model X.prog X.w) JA.kIn LKa exB
  have ask : ∀ {Q2 : Value → Shared → Prop} {E2 : Value → Shared → Prop}, Q2 c { s' with heap := hA } → wpAny (model X.prog X.w) (X.A.mark (some (.ref a))) (eval (.Name x np) X.env) Q2 E2 { s' with heap := hA } := fun {Q2 E2} q2 => by
    rcases nam with ⟨g1, g2, g3 | ⟨g3, g4, g5⟩⟩
    · exact ld_glob (X := X.suite a ((a, oeA) :: (X.pn ++ pins))) SA g1 g3 q2 g2
    · exact ld_blt (X := X.suite a ((a, oeA) :: (X.pn ++ pins))) SA g1 g3 g4 q2 g5 g2
  refine ask (LKm.here ?_)
  cases bb with
  | true =>
    refine codeAny_handlers_suite_as (HandSPX.lands_againZ flA fun hB flB upB => ?_)
    have JB : Inv X pins σ1 H1 { s' with heap := hB } := JJ.landed nbB flB.1 ((upS.trans upA).trans upB) eOs eAg
    obtain ⟨oeB, vsB, atB, zcB, dtB⟩ := flB.there
    have SB := JB.suite atB dtB noA offL offF
    refine store_ok (X := X.suite a ((a, oeB) :: (X.pn ++ pins))) (v := .ref a) SB nod hix vis2 rfl (fun sC SC => ?_) (.inr lcl)
    refine wpAny_mono ((su a oeB cls d (X.pn ++ pins) zcB ⟨_, dtB⟩).run [] sC _ H1 _ SC (whenT rfl a noA)) (fun f sD hD => ?_) (fun _ _ z => z.elim)
    have shut : ∀ {σ6 : L2.St} {H6 : Hp} {Q : Shared → Prop}, Inv (X.suite a ((a, oeB) :: (X.pn ++ pins))) [] σ6 H6 sD → (∀ s7, Inv X pins (σ6.set i none) H6 s7 → Q s7) →
        wpAny (model X.prog X.w) X.A (do bindName X.env n .none; unbindBehindTheSuite X.env n pos') (fun _ s7 => Q s7) X.xe sD := fun {σ6 H6 Q} S6 hq => gone_ok (S6.unsuite okX) nod hix lcl hq
    have shutK : ∀ {σ6 : L2.St} {H6 : Hp} {Q : Shared → Prop}, Inv (X.suite a ((a, oeB) :: (X.pn ++ pins))) [] σ6 H6 sD → (∀ s7, Inv X pins (σ6.set i none) (upd H6 a (ExK cls d a)) s7 → Q s7) →
        wpAny (model X.prog X.w) X.A (do bindName X.env n .none; unbindBehindTheSuite X.env n pos') (fun _ s7 => Q s7) X.xe sD := fun {σ6 H6 Q} S6 hq => by
      obtain ⟨p1, p2, p3, p4, p5⟩ := S6.pin (a, oeB) (.head _)
      exact gone_ok (adopt (S6.unsuite okX) p1 zcB ⟨_, dtB⟩ p2 s0A p3 apart) nod hix lcl hq
    cases f with
    | next =>
      obtain ⟨σ6, H6, S6, q6⟩ := hD
      exact shutK S6 fun s7 J7 => ⟨_, _, J7, q6 (S6.pin (a, oeB) (.head _)).2.1⟩
    | brk =>
      obtain ⟨σ6, H6, S6, q6⟩ := hD
      exact shut S6 fun s7 J7 => ⟨_, _, J7, q6⟩
    | cont =>
      obtain ⟨σ6, H6, S6, q6⟩ := hD
      exact shut S6 fun s7 J7 => ⟨_, _, J7, q6⟩
    | ret u =>
      obtain ⟨v6, σ6, H6, S6, r6, q6⟩ := hD
      exact shut S6 fun s7 J7 => ⟨_, _, _, J7, r6, q6⟩
  | false =>
    show wpAny _ X.A (handleBy (.ref a) X.env []) _ _ _
    refine wpAny_handleBy_nil ?_
    obtain ⟨kk1, kk2, kk3, oe, vs, T, oT, tt, he, hz, hd, h1, hr⟩ := id flA
    unfold PySem.passOn
    refine wpAny_bind (wpAny_field he hd h1 ?_)
    rw [if_neg (show ¬ ((Value.ref T == Value.none) = true) by simp)]
    have goOn : wpAny (model X.prog X.w) X.A (setFlight (.ref a) X.env.frame) (fun _ s4 => wpAny (model X.prog X.w) X.A (throw (.ref a) : Sem Flow) (SP X pins D) X.xe s4) X.xe { s' with heap := hA } := by
      rw [hfm]
      refine HandSPX.setFlight_upZ flA fun hB fB upB => wpAny_throw (tko _ _ ?_)
      exact ⟨a, B, sI, pins, σ1, H1, cls, d, rfl, JJ, nbB, (upS.trans upA).trans upB, .inr (.inr (by rw [hst]; exact fB)), noA, eOs, eAg, whenF rfl⟩
    first
      | exact wpAny_bind (wpAny_pure (wpAny_bind goOn))
      | exact wpAny_bind goOn
theorem ps_try_keep (hst : X.stack = X.env :: X.outer) (hfm : X.env.frame = some X.env.locals) (nod : X.N.Nodup) (hix : X.N[i]? = some n) (lcl : X.env.kindOf n = some .local) (nam : Names X x c) (hex : X.ex = []) (tko : Takes X Wout)
    (bd : ∀ (W : WX) (pn : List (Addr × Obj)) (xe : Value → Shared → Prop), Takes (X.tr pn xe) W → PassesOwn (model X.prog X.w) X.A X.env xe → PSs (X.tr pn xe) body (tb W))
    (su : ∀ (a : Addr) (oe : Obj) (cls : Value) (d : Option Addr) (pn : List (Addr × Obj)), Zc cls d oe → (∃ vs, oe.data = .fields vs) → PSs (X.suite a ((a, oe) :: pn)) (b0 :: suite) (ts a cls d)) :
    PS X (.Try body [.ExceptHandler (some (.Name x np)) (some n) (b0 :: suite) pos'] [] [] pos) (fun D σ H => tb (wKeep X.K c i ts Wout D) D σ H) := by
  refine ⟨fun pins s σ H D I h => wpAny_Try_except ?_⟩
  have okX := I.ok
  have whole := (bd (wKeep X.K c i ts Wout D) (X.pn ++ pins) (fun e s1 => wpAny (model X.prog X.w) X.A (noteFrame e X.env) (fun _ s2 => wpAny (model X.prog X.w) X.A (setFlight e none) (fun _ s3 =>
    wpAny (model X.prog X.w) X.A (handleBy e X.env [.ExceptHandler (some (.Name x np)) (some n) (b0 :: suite) pos']) (SP X pins D) X.xe s3) X.xe s2) X.xe s1) (fun u s' xx => keep_catch okX hst hfm nod hix lcl nam hex tko su xx) PassesOwn.looking).run [] s σ H D (I.toTry _) h
  refine wpAny_mono whole (fun f s1 hsp => ?_) (fun e s1 he => he)
  cases f with
  | next =>
    obtain ⟨σ', H', J', q⟩ := hsp
    exact wpAny_execs_nil ⟨σ', H', J'.ofTry okX, q⟩
  | brk =>
    obtain ⟨σ', H', J', q⟩ := hsp
    exact ⟨σ', H', J'.ofTry okX, q⟩
  | cont =>
    obtain ⟨σ', H', J', q⟩ := hsp
    exact ⟨σ', H', J'.ofTry okX, q⟩
  | ret u =>
    obtain ⟨v, σ', H', J', r, q⟩ := hsp
    exact ⟨v, σ', H', J'.ofTry okX, r, q⟩
end
end Fld
namespace Fld
open PySem PySem.Spec PyProof.Rows L2
/-- isinstance(x, C), C of one's own: of a plain caught error; of what has a built-in type -/
def rIsX (K : PySem.W.Frag) : List V → Hp → VK → Prop := fun xs H Q => ∃ (a D : Addr) (c : V) (cv : Value) (b : Bool), xs = [.ref a, c] ∧ H a = some (ExK (.ref D) none a) ∧ ExcC K D ∧ ClsV c cv ∧ PySem.W.kitOne K (.ref D) cv = some b ∧ Q (.bl b) H
theorem call_isX {X : Cx} : CallR X (.builtin "isinstance") (rIsX X.K) := by
  intro pins s σ H xs us Q I r h
  obtain ⟨a, D, c, cv, b, rfl, ha, C, hcv, e, q⟩ := h
  obtain ⟨u1, u2, rfl, r1, r2⟩ := vals2 r
  cases (show u1 = Value.ref a from r1)
  have ec := hcv.eq r2
  subst ec
  obtain ⟨⟨oe, vs, hget, hz, hv⟩, _⟩ := I.hok a _ ha
  have J : PySem.W.InstAt s.heap a oe D none := by
    obtain ⟨oc, od, oda, osl⟩ := oe
    obtain ⟨h1, h2⟩ := hz
    dsimp only at h1 h2 hv
    subst h1 h2 hv
    exact ⟨hget, rfl, rfl, True.intro⟩
  exact PySem.W.kia_one (PySem.W.handS_kitx_exc C.hg C.hk C.hs C.hd C.ha C.hn C.ht C.hm) I.kIn J e (fun z => nomatch z) fun tk => ⟨.bl b, H, I.kept (t' := tk) fun _ _ z => z, rfl, q⟩
def rIsU (K : PySem.W.Frag) : List V → Hp → VK → Prop := fun xs H Q => rIsi K xs H Q ∨ rIsX K xs H Q
theorem call_isU {X : Cx} : CallR X (.builtin "isinstance") (rIsU X.K) := by
  intro pins s σ H xs us Q I r h
  rcases h with h | h
  · exact call_isi pins s σ H xs us Q I r h
  · exact call_isX pins s σ H xs us Q I r h
/-- an own class in isinstance -/
theorem kit_own {K : PySem.W.Frag} {t : Value} {C : Addr} {b : Bool} (hd : PySem.W.hasDictIn K C = true) (ht : PySem.W.typeIn K (.ref C) = some (.type "type")) (hs : PySem.W.subIn K t (.ref C) = some b) (hb : b = false → (t == .ref C) = false) : PySem.W.kitOne K t (.ref C) = some b := by
  obtain ⟨cd, hc, _⟩ := PySem.W.any_some hd
  have e2 : ((PySem.W.clsIn K C).isSome && PySem.W.typeIn K (.ref C) == some (.type "type")) = true := by rw [hc, ht]; rfl
  have e3 : PySem.W.kitCls K t (.ref C) = some b := by
    show (if ((PySem.W.clsIn K C).isSome && PySem.W.typeIn K (.ref C) == some (.type "type")) = true then PySem.W.subIn K t (.ref C) else none) = some b
    rw [if_pos e2]; exact hs
  unfold PySem.W.kitOne
  cases c : (t == Value.ref C) with
  | true =>
    cases b with
    | true => rw [if_pos rfl]
    | false => rw [hb rfl] at c; cases c
  | false => rw [if_neg (by decide)]; exact e3
/-- what isinstance of an error of one's own asks of its class -/
structure IsC (K : PySem.W.Frag) (C : Addr) : Prop where
  x : ExcC K C
  t : PySem.W.typeIn K (.ref C) = some (.type "type")
  n : PySem.W.subIn K (.type "NoneType") (.ref C) = some false
theorem IsC.none {K : PySem.W.Frag} {C : Addr} (h : IsC K C) : PySem.W.kitOne K (.type "NoneType") (.ref C) = some false := kit_own h.x.hd h.t h.n fun _ => rfl
theorem IsC.self {K : PySem.W.Frag} {C : Addr} (h : IsC K C) (s : PySem.W.subIn K (.ref C) (.ref C) = some true) : PySem.W.kitOne K (.ref C) (.ref C) = some true := kit_own h.x.hd h.t s fun z => nomatch z
end Fld
namespace Fld
open PySem PySem.Spec PyProof.Rows L2
theorem ixK {r : PySem.W.Frag → R2} {K : PySem.W.Frag} {X : Cx} (h : IxR X (r X.K)) (e : X.K = K := by rfl) : IxR X (r K) := e ▸ h
theorem opK {r : PySem.W.Frag → R2} {K : PySem.W.Frag} {X : Cx} {o : Value → Value → Sem Value} (h : OpR X o (r X.K)) (e : X.K = K := by rfl) : OpR X o (r K) := e ▸ h
theorem clK {r : PySem.W.Frag → List V → Hp → VK → Prop} {K : PySem.W.Frag} {X : Cx} {f : Value} (h : CallR X f (r X.K)) (e : X.K = K := by rfl) : CallR X f (r K) := e ▸ h
end Fld
/-! == of any value with a text, in among texts, a tuple with (), a tuple turned about -/
namespace Fld
open PySem PySem.Spec PyProof.Rows L2
section
variable {A : Around} {s : Shared} {l : Addr} {o : Obj} {es : Array DictEntry} {n : Nat}
theorem dict_declines {P : Program} {w : World} {E : Value → Shared → Prop} {z : Str} {u : Tok} (hT : s.TypeIs (.ref l) "dict") (Q : Value → Shared → Prop) (q : Q .notImplemented s) : wpAny (model P w) A (call (.builtin "dict.__eq__") [.ref l, .str z u]) Q E s := by
  refine wpAny_call_entry PySem.F.slot_dict_eq hT PySem.F.entry_dict_eq ?_ (PySem.F.args_dict_eq_2 _ _)
  show wpAny _ _ (Builtin.Dict.dictSlotArgs "__eq__" ⟨[.ref l, .str z u], []⟩ >>= _) _ _ s
  refine wpAny_bind ?_
  unfold Builtin.Dict.dictSlotArgs
  refine wpAny_bind (wpAny_notOrdered_dict hT ?_)
  show wpAny _ _ (pure (Value.ref l, Value.str z u)) _ _ s
  refine wpAny_pure ?_
  refine wpAny_bind (wpAny_isInstance (T := "str") (typeIs_str s z u) PySem.F.sub_str_dict ?_)
  simp only [Bool.not_false, if_true]
  exact wpAny_bind (wpAny_rule (wpAny_bind (wpAny_pure (wpAny_pure ⟨_, rfl, q⟩))))
end
end Fld
namespace Fld
open PySem PySem.Spec PyProof.Rows L2
open PySem.MeetsSeq
theorem str_dict_declines (b : Str) (u : Tok) (l : Addr) (c : Value) (es : Array DictEntry) (ep : Nat) (dd : Option Addr) (sl : Array (Option Value)) :
    Meets (Builtin.«str.__eq__» ⟨[.str b u, .ref l], []⟩) (fun _ R s => s.heap.get? l = some { cls := c, dict := dd, data := .dict es ep, slots := sl } ∧ R (.ok (.ret .notImplemented)) s) := .of_wp fun P w A R s h => by
  obtain ⟨hp, g, d, tk, os⟩ := s
  obtain ⟨hl, h⟩ := h
  wp_walk using PySem.AutoSeq1.wpAny_loadPart' hl, wpAny_load hl
  exact ⟨_, rfl, h⟩
section
variable {A : Around} {s : Shared} {l : Addr} {o : Obj}
theorem rc_dict_str {es : Array DictEntry} {ep : Nat} (z : Str) (u : Tok) (ho : s.heap.get? l = some o) (ex : o.ExactDict) (hd : o.data = .dict es ep) (hu : A.units < cLine) : SeqAt.RcAt A s (.ref l) (.str z u) false := fun P w E Q h => by
  obtain ⟨cls, dd, data, sl⟩ := o
  obtain ⟨hc, _, _⟩ := ex
  simp only at hc hd
  subst hc hd
  exact SeqAt.rc_eq_decline_or (k := false) ⟨_, ho, rfl⟩ (typeIs_str s z u) (by decide) PySem.F.sub_str_dict PySem.F.slot_dict_eq PySem.F.slot_str_eq_refl
    (fun Q' hq => dict_declines ⟨_, ho, rfl⟩ Q' hq)
    (fun _ hq => call_meets PySem.F.slot_str_eq_refl (typeIs_str s z u) PySem.F.entry_str_eq (PySem.F.args_str_eq_2 _ _) (str_dict_declines z u l _ es ep dd sl) ⟨ho, hq⟩)
    (fun _ hq => wpAny_of_eq (rfl : isSame (.ref l) (.str z u) = pure false) hq) (.inr hu) h
theorem rc_str_dict {es : Array DictEntry} {ep : Nat} (z : Str) (u : Tok) (ho : s.heap.get? l = some o) (ex : o.ExactDict) (hd : o.data = .dict es ep) (hu : A.units < cLine) : SeqAt.RcAt A s (.str z u) (.ref l) false := fun P w E Q h => by
  obtain ⟨cls, dd, data, sl⟩ := o
  obtain ⟨hc, _, _⟩ := ex
  simp only at hc hd
  subst hc hd
  exact SeqAt.rc_eq_decline_or (k := false) (typeIs_str s z u) ⟨_, ho, rfl⟩ (by decide) PySem.F.sub_dict_str PySem.F.slot_str_eq PySem.F.slot_dict_eq_refl
    (fun _ hq => call_meets PySem.F.slot_str_eq (typeIs_str s z u) PySem.F.entry_str_eq (PySem.F.args_str_eq_2 _ _) (str_dict_declines z u l _ es ep dd sl) ⟨ho, hq⟩)
    (fun Q' hq => dict_declines ⟨_, ho, rfl⟩ Q' hq)
    (fun _ hq => wpAny_of_eq (rfl : isSame (.str z u) (.ref l) = pure false) hq) (.inr hu) h
theorem eq_str_dict {es : Array DictEntry} {ep : Nat} (z : Str) (u : Tok) (ho : s.heap.get? l = some o) (ex : o.ExactDict) (hd : o.data = .dict es ep) (hu : A.units < cLine) : SeqAt.EqAt A s (.str z u) (.ref l) false := fun P w E Q h => by
  unfold eqBool
  refine wpAny_holding (wpAny_ite_split (fun hab => absurd (eq_of_beq hab) nofun) (fun _ => ?_))
  exact wpAny_bind (rc_str_dict z u ho ex hd hu P w E _ (wpAny_truthy_bool h))
end
def isS : PyData → Str → Bool
  | .str x, z => decide (x = z)
  | _, _ => false
section
variable {X : Cx} {pins : List (Addr × Obj)} {σ : L2.St} {H : Hp} {s : Shared}
theorem beqStr (a b : Str) : (a == b) = decide (a = b) := by
  rw [Bool.eq_iff_iff, beq_iff_eq, decide_eq_true_iff]
theorem dv_rc {A : Around} (I : Inv X pins σ H s) (hu : A.units + 64 < cLine) {v : V} {u : Value} {d : PyData} (h : Dv X.K H v d) (r : RelV v u) (z : Str) (t : Tok) : SeqAt.RcAt A s u (.str z t) (isS d z) := by
  have hu1 : A.units < cLine := by omega
  cases h with
  | non => cases r; exact SeqAt.RcAt.none_str z t
  | bl b => cases r; exact SeqAt.RcAt.bool_str b z t
  | int i => obtain ⟨t', rfl⟩ := r; exact SeqAt.RcAt.int_str i t' z t
  | str x =>
    obtain ⟨t', rfl⟩ := r
    have := SeqAt.RcAt.str_str (A := A) (s := s) x t' z t
    rw [beqStr] at this
    exact this
  | lst hs ha =>
    cases r
    obtain ⟨its, rv, pl, _⟩ := I.list hs
    exact SeqAt.RcAt.list_str z t pl.isList hu1
  | tup hs ha =>
    cases r
    obtain ⟨its, rv, pl, _⟩ := I.tuple hs
    exact SeqAt.RcAt.tuple_str z t pl hu1
  | dic hs he ha =>
    cases r
    obtain ⟨_, hy, vs, kv, ⟨o, es, ep, ho, ex, hd, _, pr, _⟩⟩ := dk_of I.hok hs
    exact rc_dict_str z t ho ex hd hu1
theorem dv_eq {A : Around} (I : Inv X pins σ H s) (hu : A.units + 64 < cLine) {v : V} {u : Value} {d : PyData} (h : Dv X.K H v d) (r : RelV v u) (z : Str) (t : Tok) : SeqAt.EqAt A s (.str z t) u (isS d z) := by
  have hu1 : A.units < cLine := by omega
  cases h with
  | non => cases r; exact SeqAt.EqAt.str_none z t
  | bl b => cases r; exact SeqAt.EqAt.str_bool z t b
  | int i => obtain ⟨t', rfl⟩ := r; exact SeqAt.EqAt.str_int z t i t'
  | str x =>
    obtain ⟨t', rfl⟩ := r
    have := SeqAt.EqAt.str_str (A := A) (s := s) z t x t'
    rw [beqStr] at this
    have e : isS (.str x) z = decide (z = x) := decide_eq_decide.mpr ⟨Eq.symm, Eq.symm⟩
    rw [e]
    exact this
  | lst hs ha =>
    cases r
    obtain ⟨its, rv, pl, _⟩ := I.list hs
    exact SeqAt.EqAt.str_list z t pl.isList hu1
  | tup hs ha =>
    cases r
    obtain ⟨its, rv, pl, _⟩ := I.tuple hs
    exact SeqAt.EqAt.str_tuple z t pl hu1
  | dic hs he ha =>
    cases r
    obtain ⟨_, hy, vs, kv, ⟨o, es, ep, ho, ex, hd, _, pr, _⟩⟩ := dk_of I.hok hs
    exact eq_str_dict z t ho ex hd hu1
end
def rEqV (K : PySem.W.Frag) : R2 := fun x y H Q => ∃ d z, Dv K H x d ∧ y = .str z ∧ Q (.bl (isS d z)) H
theorem op_eqV {X : Cx} (hu : X.A.units + 64 < cLine) : OpR X (compareOp .Eq) (rEqV X.K) := by
  intro pins s σ H x y v u Q I rx ry h
  obtain ⟨d, z, hd, rfl, q⟩ := h
  obtain ⟨t, rfl⟩ := ry
  exact dv_rc I hu hd rx z t X.prog X.w _ _ ⟨.bl _, H, I, rfl, q⟩
/-- x in a tuple of texts -/
def rInV (K : PySem.W.Frag) : R2 := fun x y H Q => ∃ (d : PyData) (p : Addr) (zs : List Str), Dv K H x d ∧ y = .ref p ∧ SqT K H p (zs.map V.str) ∧ Q (.bl (zs.any fun z => isS d z)) H
theorem strs_any {d : PyData} : ∀ {zs : List Str} {us : List Value}, Vals (zs.map V.str) us → us.any (fun u => match u with | .str z _ => isS d z | _ => false) = zs.any fun z => isS d z
  | [], _, h => by cases h; rfl
  | z :: zs, _, h => by
    cases h with
    | cons r t =>
      obtain ⟨k, rfl⟩ := r
      rw [List.any_cons, List.any_cons, strs_any t]
theorem strs_mem : ∀ {zs : List Str} {us : List Value}, Vals (zs.map V.str) us → ∀ u ∈ us, ∃ z t, u = .str z t
  | [], _, h, u, hu => by cases h; cases hu
  | z :: zs, _, h, u, hu => by
    cases h with
    | cons r t =>
      rcases List.mem_cons.mp hu with rfl | hu
      · obtain ⟨k, rfl⟩ := r; exact ⟨z, k, rfl⟩
      · exact strs_mem t u hu
theorem op_inV {X : Cx} (hu : X.A.units + 65 < cLine) : OpR X (compareOp .In) (rInV X.K) := by
  intro pins s σ H x y v u Q I rx ry h
  obtain ⟨d, p, zs, hd, rfl, hp, q⟩ := h
  cases ry
  obtain ⟨its, r, pl, hz⟩ := I.tuple hp
  refine SeqAt.in_tupleAt (fun u => match u with | .str z _ => isS d z | _ => false) pl (fun w hw => ?_) ⟨.bl _, H, I, rfl, ?_⟩
  · obtain ⟨z, t, rfl⟩ := strs_mem r w (by simpa using hw)
    exact dv_eq I (by show X.A.units + 1 + 64 < cLine; omega) hd rx z t
  · rw [show its.toArray.any (fun u => match u with | .str z _ => isS d z | _ => false) = its.any (fun u => match u with | .str z _ => isS d z | _ => false) by simp, strs_any r]
    exact q
/-- a tuple and the empty one -/
def rEqE (K : PySem.W.Frag) : R2 := fun x y H Q => ∃ a b xs, x = .ref a ∧ y = .ref b ∧ SqT K H a xs ∧ SqT K H b [] ∧ Q (.bl xs.isEmpty) H
theorem op_eqE {X : Cx} (hu : X.A.units + 64 < cLine) : OpR X (compareOp .Eq) (rEqE X.K) := by
  intro pins s σ H x y v u Q I rx ry h
  obtain ⟨a, b, xs, rfl, rfl, ha, hb, q⟩ := h
  cases rx
  cases ry
  obtain ⟨its, r1, p1, _⟩ := I.tuple ha
  obtain ⟨its2, r2, p2, _⟩ := I.tuple hb
  cases r2
  have hl := r1.length
  refine SeqAt.RcAt.tuples (A := X.A) (e := fun _ => true) p1 p2 (by omega) (fun j _ h2 => absurd h2 (by simp)) X.prog X.w _ _ ⟨.bl xs.isEmpty, H, I, ?_, q⟩
  show Value.bool _ = Value.bool _
  congr 1
  cases xs with
  | nil => cases r1; rfl
  | cons _ _ => cases r1; simp
end Fld
/-! t[::-1] -/
namespace Fld
open PySem PySem.Spec PyProof.Rows L2
section
variable {prog : Program} {w : World} {A : Around} {E : Value → Shared → Prop} {s : Shared}
theorem adj_back (n : Nat) : Builtin.Slice.sliceAdjust none none (-1) (n : Int) = ((n : Int) - 1, -1) := by
  unfold Builtin.Slice.sliceAdjust
  simp
theorem places_back (n : Nat) : Builtin.Slice.slicePlaces ((n : Int) - 1) (-1) (-1) = n := by
  unfold Builtin.Slice.slicePlaces
  simp
  try omega
theorem applied_back {sl : Addr} {t : Tok} {n : Nat} {Q : Int × Int × Nat → Shared → Prop} (hs : s.heap.IsSliceOf sl .none .none (.int (-1) t))
    (h : Q ((n : Int) - 1, -1, n) s) : wpAny (model prog w) A (Builtin.Slice.sliceApplied (.ref sl) (pure (n : Int))) Q E s := by
  obtain ⟨os, hos, hcs, hds⟩ := id hs
  unfold Builtin.Slice.sliceApplied Builtin.Slice.sliceFields
  refine wpAny_bind (wpAny_bind (wpAny_field hos hds (x := .none) rfl (wpAny_bind (wpAny_field hos hds (x := .none) rfl (wpAny_bind (wpAny_field hos hds (x := .int (-1) t) rfl (wpAny_pure ?_)))))))
  refine wpAny_bind (HT.slicePart_ (.int (-1) t) ?_)
  show wpAny _ _ (if ((-1 : Int) == 0) = true then _ else _) _ _ s
  rw [if_neg (by decide)]
  refine wpAny_bind (HT.slicePart_ .none (wpAny_bind (HT.slicePart_ .none (wpAny_bind (wpAny_pure ?_)))))
  show wpAny _ _ (match Builtin.Slice.sliceAdjust none none (-1) (n : Int) with | (lo, hi) => pure (lo, (-1 : Int), Builtin.Slice.slicePlaces lo hi (-1))) _ _ s
  rw [adj_back n]
  show wpAny _ _ (pure ((n : Int) - 1, (-1 : Int), Builtin.Slice.slicePlaces ((n : Int) - 1) (-1) (-1))) _ _ s
  rw [places_back]
  exact wpAny_pure h
end
end Fld
namespace Fld
open PySem PySem.Spec PyProof.Rows L2
section
variable {prog : Program} {w : World} {A : Around} {E : Value → Shared → Prop} {s : Shared}
theorem filt_congr {α β : Type} {f g : α → Option β} : ∀ {l : List α}, (∀ x ∈ l, f x = g x) → l.filterMap f = l.filterMap g
  | [], _ => rfl
  | x :: l, h => by
    rw [List.filterMap_cons, List.filterMap_cons, h x (List.mem_cons_self ..), filt_congr fun y hy => h y (List.mem_cons_of_mem _ hy)]
theorem pick_back (xs : List Value) : ((List.range xs.length).filterMap fun (m : Nat) => xs.toArray[(((xs.length : Int) - 1) + (m : Int) * (-1)).toNat]?).toArray = xs.reverse.toArray := by
  congr 1
  have e : ∀ m ∈ List.range xs.length, xs.toArray[(((xs.length : Int) - 1) + (m : Int) * (-1)).toNat]? = some (xs.reverse.getD m .none) := by
    intro m hm
    have hm' := List.mem_range.mp hm
    have e1 : (((xs.length : Int) - 1) + (m : Int) * (-1)).toNat = xs.length - 1 - m := by omega
    rw [e1, List.getElem?_toArray, List.getD_eq_getElem?_getD, List.getElem?_reverse hm', List.getElem?_eq_getElem (by omega)]
    rfl
  rw [filt_congr e]
  have e2 : (List.range xs.length).filterMap (fun m => some (xs.reverse.getD m Value.none)) = (List.range xs.length).map fun m => xs.reverse.getD m Value.none := by
    rw [← List.filterMap_eq_map]; rfl
  rw [e2]
  have := range_map xs.reverse (fun c => c) Value.none
  rw [List.length_reverse, List.map_id'] at this
  exact this
theorem getItem_back {t sl : Addr} {xs : List Value} {tk : Tok} {Q : Value → Shared → Prop} (ht : IsTup s.heap t xs.toArray) (hs : s.heap.IsSliceOf sl .none .none (.int (-1) tk))
    (h : Q (.ref s.heap.objs.size) { s with heap := s.heap.push { cls := .type "tuple", data := .seq xs.reverse.toArray } }) (hsz : xs.length ≤ sizeLine) : wpAny (model prog w) A (getItem (.ref t) (.ref sl)) Q E s := by
  have fits : sizeOk (.seq xs.reverse.toArray) := by
    show xs.reverse.toArray.size ≤ sizeLine
    rw [List.size_toArray, List.length_reverse]
    exact hsz
  obtain ⟨os, hos, hcs, hds⟩ := id hs
  have hTs : s.TypeIs (.ref sl) "slice" := ⟨os, hos, hcs⟩
  unfold getItem
  try with_reducible refine wpAny_holding ?_
  first | refine wpAny_bind (wpAny_pure ?_) | skip
  refine wpAny_bind (wpAny_sequenceKey ht.typeIs (by decide) ?_)
  refine wpAny_bind (wpAny_callSpecial?_slot (name := Str.ofString "__getitem__") ht.typeIs PyProof.Rows.slot_tuple_getitem
    (wpAny_call_entry PyProof.Rows.slot_tuple_getitem ht.typeIs entry_tuple_getitem ?_ (args_tuple_getitem _ _)))
  show wpAny _ _ (Builtin.Tuple.tupleItemsOf (.ref t) >>= _) _ _ s
  refine wpAny_bind (tupleItemsOf_ ht ?_)
  refine wpAny_bind (wpAny_typeOf hTs ?_)
  rw [if_pos (by decide)]
  rw [List.size_toArray]
  refine wpAny_bind (applied_back hs ?_)
  have no : ¬ ((((xs.length : Int) - 1) == 0 && (-1 : Int) == 1 && xs.length == xs.length) = true) := by
    rw [show ((-1 : Int) == 1) = false from rfl, Bool.and_false, Bool.false_and]
    exact Bool.false_ne_true
  show wpAny _ _ (if ((((xs.length : Int) - 1) == 0 && (-1 : Int) == 1 && xs.length == xs.length) = true) then _ else _) _ _ s
  rw [if_neg no, pick_back]
  first
    | exact wpAny_bind (m := Builtin.Tuple.tupleExact _) (wpAny_newObj_type (wpAny_pure ⟨_, rfl, wpAny_pure h⟩) fits)
    | exact wpAny_bind (m := Builtin.Tuple.tupleExact _) (wpAny_newObj_type (wpAny_bind (wpAny_pure (wpAny_pure ⟨_, rfl, wpAny_pure h⟩))) fits)
    | exact wpAny_bind (wpAny_bind (m := Builtin.Tuple.tupleExact _) (wpAny_newObj_type (wpAny_pure (wpAny_pure ⟨_, rfl, wpAny_pure h⟩)) fits))
    | exact wpAny_bind (wpAny_bind (m := Builtin.Tuple.tupleExact _) (wpAny_newObj_type (wpAny_pure ⟨_, rfl, wpAny_pure h⟩) fits))
end
def tRevT (K : PySem.W.Frag) (te : TE) : TE := fun σ H Q => te σ H fun x H1 => ∃ a xs, x = .ref a ∧ SqT K H1 a xs ∧ ∀ p, H1 p = none → Q (.ref p) (upd H1 p (.tup xs.reverse))
theorem pe_revT {X : Cx} {e : Expr} {te : TE} {k : Nat} {p1 p2 p3 pos : Pos} (he : PE X e te) : PE X (.Subscript e (.Slice none none (some (.UnaryOp .USub (.Constant (.int 1) k p1) p2)) p3) pos) (tRevT X.K te) := by
  refine ⟨fun pins s σ H Q I h => Subscript_ (thn (he.run pins s σ H _ I h) fun v s1 ⟨x, H1, I1, r1, q1⟩ => ?_)⟩
  obtain ⟨a, xs, ex, hx, q⟩ := q1
  subst ex
  cases r1
  have third : PO X (some (.UnaryOp .USub (.Constant (.int 1) k p1) p2)) (tPart (tUn (rU fun i => .int (-i)) (tC (.int 1)))) := po_some (pe_un un_neg pe_int)
  refine wpAny_Slice (thn (po_none.run pins s1 σ H1 (fun o H2 => o = none ∧ H2 = H1) I1 ⟨rfl, rfl⟩) fun vl s2 ⟨l, H2, I2, pl, el, e2⟩ => ?_)
  subst el e2
  refine thn (po_none.run pins s2 σ H2 (fun o H3 => o = none ∧ H3 = H2) I2 ⟨rfl, rfl⟩) fun vu s3 ⟨m, H3, I3, pu, em, e3⟩ => ?_
  subst em e3
  refine thn (third.run pins s3 σ H3 (fun o H4 => o = some (-1) ∧ H4 = H3) I3 ⟨1, rfl, -1, rfl, rfl, rfl⟩) fun vs s4 ⟨o, H4, I4, ps, eo, e4⟩ => ?_
  subst eo e4
  cases pl
  cases pu
  obtain ⟨tk, rfl⟩ : ∃ tk, vs = .int (-1) tk := by cases ps with | int _ tk => exact ⟨tk, rfl⟩
  have I5 : Inv X pins σ H4 { s4 with heap := s4.heap.push { cls := .type "slice", data := .fields #[.none, .none, .int (-1) tk] } } := I4.kept (t' := s4.toks) fun b ob q => Heap.get?_push_of_some _ q
  obtain ⟨its, r, ht, hz⟩ := I5.tuple hx
  have hlen := r.length
  show wpAny (model X.prog X.w) X.A (subscriptTail e (.Slice none none (some (.UnaryOp .USub (.Constant (.int 1) k p1) p2)) p3) (.ref a) (.ref s4.heap.objs.size)) (EP X pins σ Q) X.xe { s4 with heap := s4.heap.push { cls := .type "slice", data := .fields #[.none, .none, .int (-1) tk] } }
  refine tail_any (ops := [.ref a, .ref s4.heap.objs.size]) ht.typeIs PyProof.Rows.slot_tuple_getitem.lookup ?_ (by with_unfolding_all rfl)
  refine getItem_back ht (Heap.IsSliceOf.new _ .none .none (.int (-1) tk)) ?_ (by omega)
  refine ⟨.ref _, _, I5.laid (t' := s4.toks) (o := .tup xs.reverse) (fun b ob q => Heap.get?_push_of_some _ q) (Nat.le_refl _) ?_, rfl, q _ (I5.hok.fresh (Nat.le_refl _))⟩
  exact ⟨by rw [List.length_reverse]; exact hz, _, r.reverse, IsTup.new _ _⟩
end Fld
namespace Fld
open PySem PySem.Spec PyProof.Rows L2
def sp_law_draw_ins : Sp := fun vs H Q _ => ∃ (p c : Addr) (n : Nat), vs = [.ref p] ∧ Pen H p c n ∧ n ≤ 700000 ∧ ∀ (a : Addr) (i : Ins) H', H' a = some (.tup i.vs) → i.Ok → Drew p c H H' (n + 200) → Q (.ref a) H'
def sp_law_draw_ans : Sp := fun vs H Q _ => ∃ (p c : Addr) (n : Nat), vs = [.ref p] ∧ Pen H p c n ∧ n ≤ 700000 ∧ ∀ (a : Addr) (i : Ans) H', H' a = some (.tup i.vs) → i.Ok → Drew p c H H' (n + 200) → Q (.ref a) H'
/-! ### what is written is read again -/
theorem takeRest_oct (most : Int) : ∀ (r : Nat) (l : List Int) (k : Nat) (z w : Int), 1 ≤ w → 0 ≤ z → z + (r : Int) * w ≤ most → (0 < r ∨ w = 1) → takeRest most (restOct r ++ l) k z w = .ok (z + (r : Int) * w, k + (restOct r).length) := by
  intro r
  induction r using Nat.strongRecOn with
  | _ r ih =>
    intro l k z w hw hz hm h0
    by_cases h : r < 128
    · rw [restOct_lt h]
      show takeRest most ((r : Int) :: l) k z w = _
      rw [takeRest, if_neg (by omega), if_pos ⟨hm, by omega⟩]
      rfl
    · rw [restOct_ge h]
      show takeRest most ((128 + (r : Int) % 128) :: (restOct (r / 128) ++ l)) k z w = _
      have e0 : (128 + (r : Int) % 128 - 128) * w = ((r : Int) % 128) * w := by rw [show 128 + (r : Int) % 128 - 128 = (r : Int) % 128 by omega]
      have e1 : (r : Int) = ((r : Int) % 128) + 128 * ((r / 128 : Nat) : Int) := by omega
      have e2 : (r : Int) * w = ((r : Int) % 128) * w + ((r / 128 : Nat) : Int) * (w * 128) := by
        conv => lhs; rw [e1]
        rw [Int.add_mul, Int.mul_comm 128, Int.mul_assoc, Int.mul_comm 128 w]
      have p1 : 0 ≤ ((r : Int) % 128) * w := Int.mul_nonneg (by omega) (by omega)
      have q1 : 1 ≤ r / 128 := by omega
      have p2 : (w * 128) ≤ ((r / 128 : Nat) : Int) * (w * 128) := by
        have := Int.mul_le_mul_of_nonneg_right (show (1 : Int) ≤ ((r / 128 : Nat) : Int) by omega) (show 0 ≤ w * 128 by omega)
        omega
      rw [takeRest, if_pos (by omega), if_pos (by rw [e0]; omega), e0]
      rw [ih (r / 128) (by omega) l (k + 1) _ _ (by omega) (by omega) (by omega) (.inl (by omega))]
      rw [List.length_cons]
      refine congrArg Except.ok (Prod.ext ?_ ?_)
      · show z + ((r : Int) % 128) * w + ((r / 128 : Nat) : Int) * (w * 128) = z + (r : Int) * w
        rw [e2]; omega
      · show k + 1 + (restOct (r / 128)).length = k + ((restOct (r / 128)).length + 1)
        omega
theorem takeNum_oct (n b m : Nat) (least most : Int) (pre l : List Int) (h1 : least ≤ n) (h2 : (n : Int) ≤ most) (hl : 0 ≤ least) : least ≤ min ((2 ^ b - 1 : Nat) : Int) most →
    takeNum (pre ++ (numOct n b m ++ l)) b m least most pre.length = .ok ((n : Int), pre.length + (numOct n b m).length) := by
  intro hlm
  unfold takeNum numOct
  by_cases h : n < 2 ^ b - 1
  · rw [if_pos h]
    rw [List.getElem?_append_right (Nat.le_refl _), Nat.sub_self]
    show (if _ then _ else _) = _
    have e : ((m + n : Nat) : Int) - (m : Int) = (n : Int) := by omega
    dsimp only [List.cons_append, List.getElem?_cons_zero]
    rw [e, if_pos ⟨h1, by omega⟩, if_pos (by omega)]
    rfl
  · rw [if_neg h]
    rw [List.getElem?_append_right (Nat.le_refl _), Nat.sub_self]
    dsimp only [List.cons_append, List.getElem?_cons_zero]
    have e : ((m + (2 ^ b - 1) : Nat) : Int) - (m : Int) = ((2 ^ b - 1 : Nat) : Int) := by omega
    rw [e, if_pos ⟨by omega, by omega⟩, if_neg (by omega)]
    have hd : (pre ++ ((m + (2 ^ b - 1) : Nat) : Int) :: (restOct (n - (2 ^ b - 1)) ++ l)).drop (pre.length + 1) = restOct (n - (2 ^ b - 1)) ++ l := by
      rw [List.drop_append]
      simp
    rw [hd, takeRest_oct _ _ _ _ _ _ (by decide) (by decide) (by omega) (.inr rfl)]
    have hpn := pow_pos2 b
    refine congrArg Except.ok (Prod.ext ?_ ?_)
    · show ((2 ^ b - 1 : Nat) : Int) + (0 + ((n - (2 ^ b - 1) : Nat) : Int) * 1) = (n : Int)
      omega
    · show pre.length + 1 + (restOct (n - (2 ^ b - 1))).length = pre.length + ((restOct (n - (2 ^ b - 1))).length + 1)
      omega
theorem takeChars_oct : ∀ (cs : List Nat) (l : List Int) (k : Nat), cs.all isChar = true → takeChars cs.length ((cs.map fun (c : Nat) => (c : Int)) ++ l) k = .ok (cs, k + cs.length)
  | [], l, k, _ => rfl
  | c :: cs, l, k, h => by
    rw [List.all_cons, Bool.and_eq_true] at h
    show takeChars (cs.length + 1) ((c : Int) :: (cs.map (fun (c : Nat) => (c : Int)) ++ l)) k = _
    rw [takeChars, Int.toNat_natCast, if_pos h.1, takeChars_oct cs l (k + 1) h.2]
    refine congrArg Except.ok (Prod.ext rfl ?_)
    show k + 1 + cs.length = k + (cs.length + 1)
    omega
theorem takeStr_oct (x : Str) (b m : Nat) (least most : Int) (pre l : List Int) (hx : x.cps.toList.all isChar = true) (h1 : least ≤ x.length) (h2 : (x.length : Int) ≤ most) (hl : 0 ≤ least) (hlm : least ≤ min ((2 ^ b - 1 : Nat) : Int) most) :
    takeStr (pre ++ (strOct x b m ++ l)) b m least most pre.length = .ok (x, pre.length + (strOct x b m).length) := by
  unfold takeStr strOct
  rw [List.append_assoc, takeNum_oct x.length b m least most pre _ h1 h2 hl hlm]
  dsimp only
  rw [Int.toNat_natCast]
  have hd : (pre ++ (numOct x.length b m ++ (x.cps.toList.map (fun (c : Nat) => (c : Int)) ++ l))).drop (pre.length + (numOct x.length b m).length) = x.cps.toList.map (fun (c : Nat) => (c : Int)) ++ l := by
    rw [← List.append_assoc, List.drop_append, ← List.length_append]
    simp
  rw [hd, str_len, takeChars_oct _ _ _ hx]
  refine congrArg Except.ok (Prod.ext rfl ?_)
  show pre.length + (numOct x.length b m).length + x.cps.toList.length = pre.length + (numOct x.length b m ++ x.cps.toList.map fun (c : Nat) => (c : Int)).length
  rw [List.length_append, List.length_map]
  omega
theorem numOct_head (n b m : Nat) : ∃ (o : Int) (l : List Int), numOct n b m = o :: l ∧ (m : Int) ≤ o ∧ o ≤ m + ((2 ^ b - 1 : Nat) : Int) := by
  unfold numOct
  have := pow_pos2 b
  by_cases h : n < 2 ^ b - 1
  · rw [if_pos h]; exact ⟨_, _, rfl, by omega, by omega⟩
  · rw [if_neg h]; exact ⟨_, _, rfl, by omega, by omega⟩
theorem strOct_head (x : Str) (b m : Nat) : ∃ (o : Int) (l : List Int), strOct x b m = o :: l ∧ (m : Int) ≤ o ∧ o ≤ m + ((2 ^ b - 1 : Nat) : Int) := by
  obtain ⟨o, l, e, h⟩ := numOct_head x.length b m
  refine ⟨o, l ++ x.cps.toList.map fun (c : Nat) => (c : Int), ?_, h⟩
  unfold strOct
  rw [e]
  rfl
theorem takeNum0 (n b m : Nat) (least most : Int) (l : List Int) (h1 : least ≤ n) (h2 : (n : Int) ≤ most) (hl : 0 ≤ least) (hlm : least ≤ min ((2 ^ b - 1 : Nat) : Int) most) : takeNum (numOct n b m ++ l) b m least most 0 = .ok ((n : Int), (numOct n b m).length) := by
  have := takeNum_oct n b m least most [] l h1 h2 hl hlm
  rw [List.nil_append, List.length_nil, Nat.zero_add] at this
  exact this
theorem takeStr0 (x : Str) (b m : Nat) (least most : Int) (l : List Int) (hx : x.cps.toList.all isChar = true) (h1 : least ≤ x.length) (h2 : (x.length : Int) ≤ most) (hl : 0 ≤ least) (hlm : least ≤ min ((2 ^ b - 1 : Nat) : Int) most) : takeStr (strOct x b m ++ l) b m least most 0 = .ok (x, (strOct x b m).length) := by
  have := takeStr_oct x b m least most [] l hx h1 h2 hl hlm
  rw [List.nil_append, List.length_nil, Nat.zero_add] at this
  exact this
theorem takeStrE (x : Str) (pre : List Int) (hx : txt (.str x) 0 40 = true) : takeStr (pre ++ strOct x 7 0) 7 0 0 40 pre.length = .ok (x, (pre ++ strOct x 7 0).length) := by
  have h40 := txt_len hx
  have := takeStr_oct x 7 0 0 40 pre [] (txt_all hx) (by omega) (by omega) (by decide) (by decide)
  rw [List.append_nil] at this
  rw [this, List.length_append]
theorem src_fixed (n : Nat) (l : List Int) (h : n ≤ 9999) : takeSrc (numOct n 6 192 ++ l) 0 = .ok (.inr (true, n), (numOct n 6 192).length) := by
  obtain ⟨o, l', e, h1, h2⟩ := numOct_head n 6 192
  have h0 : (numOct n 6 192 ++ l)[0]? = some o := by rw [e]; rfl
  unfold takeSrc
  rw [h0]
  dsimp only
  rw [if_pos (by omega), takeNum0 n 6 192 0 9999 l (by omega) (by omega) (by decide) (by decide)]
  show Except.ok (Sum.inr (true, ((n : Nat) : Int).toNat), _) = _
  rw [Int.toNat_natCast]
theorem src_entry (n : Nat) (l : List Int) (h : n ≤ 9999) : takeSrc (numOct n 6 128 ++ l) 0 = .ok (.inr (false, n), (numOct n 6 128).length) := by
  obtain ⟨o, l', e, h1, h2⟩ := numOct_head n 6 128
  have h3 : ((2 ^ 6 - 1 : Nat) : Int) = 63 := rfl
  have h0 : (numOct n 6 128 ++ l)[0]? = some o := by rw [e]; rfl
  unfold takeSrc
  rw [h0]
  dsimp only
  rw [if_neg (by omega), if_pos (by omega), takeNum0 n 6 128 0 9999 l (by omega) (by omega) (by decide) (by decide)]
  show Except.ok (Sum.inr (false, ((n : Nat) : Int).toNat), _) = _
  rw [Int.toNat_natCast]
theorem src_new (y : Str) (l : List Int) (h : txt (.str y) 1 20 = true) : takeSrc (strOct y 5 64 ++ l) 0 = .ok (.inl y, (strOct y 5 64).length) := by
  obtain ⟨o, l', e, h1, h2⟩ := strOct_head y 5 64
  have h3 : ((2 ^ 5 - 1 : Nat) : Int) = 31 := rfl
  have h20 := txt_len20 h
  have h0 : (strOct y 5 64 ++ l)[0]? = some o := by rw [e]; rfl
  unfold takeSrc
  rw [h0]
  dsimp only
  rw [if_neg (by omega), if_neg (by omega), takeStr0 y 5 64 1 20 l (txt_all h) (by omega) (by omega) (by decide) (by decide)]
  rfl
theorem ins_src (os : List Int) (k : Nat) (s : Str ⊕ Bool × Nat) (x : Str) (n : Nat) (o : Int) (h0 : os[0]? = some o) (ho : 64 ≤ o) (h1 : takeSrc os 0 = .ok (s, k)) (h2 : takeStr os 7 0 0 40 k = .ok (x, n)) : takeIns os 0 = .ok (srcIns x s, n) := by
  unfold takeIns
  rw [h0]
  dsimp only
  rw [if_neg (by omega), if_neg (by omega), h1]
  dsimp only
  rw [h2]
  rfl
theorem whole_of {α : Type} {os : List Int} {f : List Int → Nat → Except Nat (α × Nat)} {x : α} (h : f os 0 = .ok (x, os.length)) : whole os f = .ok x := by
  unfold whole
  rw [h]
  exact if_pos rfl
theorem whole_ins (i : Ins) (ok : i.Ok) : whole i.oct takeIns = .ok i := by
  refine whole_of ?_
  cases i with
  | again n =>
    have hn : n ≤ 9999 := ok
    obtain ⟨o, l', e, h1, h2⟩ := numOct_head n 5 0
    have h3 : ((2 ^ 5 - 1 : Nat) : Int) = 31 := rfl
    have h0 : (numOct n 5 0)[0]? = some o := by rw [e]; rfl
    have ht := takeNum0 n 5 0 0 9999 [] (by omega) (by omega) (by decide) (by decide)
    rw [List.append_nil] at ht
    show takeIns (numOct n 5 0) 0 = _
    unfold takeIns
    rw [h0]
    dsimp only
    rw [if_pos (by omega), ht]
    show Except.ok (Ins.again ((n : Nat) : Int).toNat, _) = _
    rw [Int.toNat_natCast]
    rfl
  | limit n =>
    have hn : n ≤ 9999 := ok
    obtain ⟨o, l', e, h1, h2⟩ := numOct_head n 5 32
    have h3 : ((2 ^ 5 - 1 : Nat) : Int) = 31 := rfl
    have h0 : (numOct n 5 32)[0]? = some o := by rw [e]; rfl
    have ht := takeNum0 n 5 32 0 9999 [] (by omega) (by omega) (by decide) (by decide)
    rw [List.append_nil] at ht
    show takeIns (numOct n 5 32) 0 = _
    unfold takeIns
    rw [h0]
    dsimp only
    rw [if_neg (by omega), if_pos (by omega), ht]
    show Except.ok (Ins.limit ((n : Nat) : Int).toNat, _) = _
    rw [Int.toNat_natCast]
    rfl
  | fixed n x =>
    obtain ⟨o, l', e, h1, h2⟩ := numOct_head n 6 192
    exact ins_src _ _ (.inr (true, n)) x _ o (by show (numOct n 6 192 ++ strOct x 7 0)[0]? = _; rw [e]; rfl) (by omega) (src_fixed n _ ok.1) (takeStrE x _ ok.2)
  | entry n x =>
    obtain ⟨o, l', e, h1, h2⟩ := numOct_head n 6 128
    exact ins_src _ _ (.inr (false, n)) x _ o (by show (numOct n 6 128 ++ strOct x 7 0)[0]? = _; rw [e]; rfl) (by omega) (src_entry n _ ok.1) (takeStrE x _ ok.2)
  | new y x =>
    obtain ⟨o, l', e, h1, h2⟩ := strOct_head y 5 64
    exact ins_src _ _ (.inl y) x _ o (by show (strOct y 5 64 ++ strOct x 7 0)[0]? = _; rw [e]; rfl) (by omega) (src_new y _ ok.1) (takeStrE x _ ok.2)
theorem whole_ans (i : Ans) (ok : i.Ok) : whole i.oct takeAns = .ok i := by
  refine whole_of ?_
  have h63 : ((2 ^ 6 - 1 : Nat) : Int) = 63 := rfl
  have h127 : ((2 ^ 7 - 1 : Nat) : Int) = 127 := rfl
  cases i with
  | done n =>
    have hn : n ≤ 20 := ok
    obtain ⟨o, l', e, h1, h2⟩ := numOct_head n 7 128
    have h0 : (numOct n 7 128)[0]? = some o := by rw [e]; rfl
    have ht := takeNum0 n 7 128 0 20 [] (by omega) (by omega) (by decide) (by decide)
    rw [List.append_nil] at ht
    show takeAns (numOct n 7 128) 0 = _
    unfold takeAns
    rw [h0]
    dsimp only
    rw [if_pos (by omega), ht]
    show Except.ok (Ans.done ((n : Nat) : Int).toNat, _) = _
    rw [Int.toNat_natCast]
    rfl
  | cancelled n =>
    have hn : n ≤ 20 := ok
    obtain ⟨o, l', e, h1, h2⟩ := numOct_head n 6 64
    have h0 : (numOct n 6 64)[0]? = some o := by rw [e]; rfl
    have ht := takeNum0 n 6 64 0 20 [] (by omega) (by omega) (by decide) (by decide)
    rw [List.append_nil] at ht
    show takeAns (numOct n 6 64) 0 = _
    unfold takeAns
    rw [h0]
    dsimp only
    rw [if_neg (by omega), if_pos (by omega), ht]
    show Except.ok (Ans.cancelled ((n : Nat) : Int).toNat, _) = _
    rw [Int.toNat_natCast]
    rfl
  | received n =>
    have hn := ok.1
    have hn2 := ok.2
    obtain ⟨o, l', e, h1, h2⟩ := numOct_head n 6 0
    have h0 : (numOct n 6 0)[0]? = some o := by rw [e]; rfl
    have ht := takeNum0 n 6 0 1 9999 [] (by omega) (by omega) (by decide) (by decide)
    rw [List.append_nil] at ht
    show takeAns (numOct n 6 0) 0 = _
    unfold takeAns
    rw [h0]
    dsimp only
    rw [if_neg (by omega), if_neg (by omega), ht]
    show Except.ok (Ans.received ((n : Nat) : Int).toNat, _) = _
    rw [Int.toNat_natCast]
    rfl
end Fld
/-! instructions and answers as data -/
namespace Fld
open PySem PySem.Spec PyProof.Rows L2
def Ins.dat : Ins → PyData
  | .again n => .tuple [.str "again", .int n]
  | .limit n => .tuple [.str "limit", .int n]
  | .fixed n x => .tuple [.str "fixed", .int n, .str x]
  | .entry n x => .tuple [.str "entry", .int n, .str x]
  | .new y x => .tuple [.str "new", .str y, .str x]
def Ans.dat : Ans → PyData
  | .done n => .tuple [.str "done", .int n]
  | .cancelled n => .tuple [.str "cancelled", .int n]
  | .received n => .tuple [.str "received", .int n]
theorem dp_ins {K : PySem.W.Frag} {H : Hp} {a : Addr} {i : Ins} (h : SqT K H a i.vs) : Dp K H (.ref a) i.dat := by
  cases i with
  | new y x => exact .tup h (.cons (.str _) (.cons (.str _) (.cons (.str _) .nil)))
  | fixed n x => exact .tup h (.cons (.str _) (.cons (.int _) (.cons (.str _) .nil)))
  | entry n x => exact .tup h (.cons (.str _) (.cons (.int _) (.cons (.str _) .nil)))
  | _ => exact .tup h (.cons (.str _) (.cons (.int _) .nil))
theorem dp_ans {K : PySem.W.Frag} {H : Hp} {a : Addr} {i : Ans} (h : SqT K H a i.vs) : Dp K H (.ref a) i.dat := by
  cases i <;> exact .tup h (.cons (.str _) (.cons (.int _) .nil))
theorem dle_flat {n : Nat} {ds : List PyData} (h : ds.length ≤ 100000) (hd : ∀ d ∈ ds, DLe n d) : DLe (n + 1) (.tuple ds) := ⟨h, hd⟩
theorem dle_str (n : Nat) (x : Str) : DLe n (.str x) := by cases n <;> exact True.intro
theorem dle_int (n : Nat) (i : Int) : DLe n (.int i) := by cases n <;> exact True.intro
theorem dle_2 {n : Nat} {a b : PyData} (ha : DLe n a) (hb : DLe n b) : DLe (n + 1) (.tuple [a, b]) := ⟨by show 2 ≤ 100000; decide, fun d hd => by
  rcases List.mem_cons.mp hd with h | h
  · rw [h]; exact ha
  · rw [List.mem_singleton.mp h]; exact hb⟩
theorem dle_3 {n : Nat} {a b c : PyData} (ha : DLe n a) (hb : DLe n b) (hc : DLe n c) : DLe (n + 1) (.tuple [a, b, c]) := ⟨by show 3 ≤ 100000; decide, fun d hd => by
  rcases List.mem_cons.mp hd with h | h
  · rw [h]; exact ha
  rcases List.mem_cons.mp h with h | h
  · rw [h]; exact hb
  · rw [List.mem_singleton.mp h]; exact hc⟩
theorem dleL_2 {n : Nat} {a b : PyData} (ha : DLe n a) (hb : DLe n b) : DLe (n + 1) (.list [a, b]) := ⟨by show 2 ≤ 100000; decide, fun d hd => by
  rcases List.mem_cons.mp hd with h | h
  · rw [h]; exact ha
  · rw [List.mem_singleton.mp h]; exact hb⟩
theorem dle_ins (n : Nat) (i : Ins) : DLe (n + 1) i.dat := by
  cases i with
  | again k => exact dle_2 (dle_str _ _) (dle_int _ _)
  | limit k => exact dle_2 (dle_str _ _) (dle_int _ _)
  | fixed k x => exact dle_3 (dle_str _ _) (dle_int _ _) (dle_str _ _)
  | entry k x => exact dle_3 (dle_str _ _) (dle_int _ _) (dle_str _ _)
  | new y x => exact dle_3 (dle_str _ _) (dle_str _ _) (dle_str _ _)
theorem dle_ans (n : Nat) (i : Ans) : DLe (n + 1) i.dat := by
  cases i <;> exact dle_2 (dle_str _ _) (dle_int _ _)
theorem isChar_lt {c : Nat} (h : isChar c = true) : c < 4294967296 := by
  have h1 : (charCodes.all fun c => decide (c < 4294967296)) = true := by decide
  exact of_decide_eq_true (List.all_eq_true.mp h1 c (List.contains_iff_mem.mp h))
theorem okD_str {x : Str} (h : x.cps.toList.all isChar = true) : okD (.str x) = true := by
  show (x.cps.toList.all fun c => decide (c < 4294967296)) = true
  exact List.all_eq_true.mpr fun c hc => decide_eq_true (isChar_lt (List.all_eq_true.mp h c hc))
theorem okD_nat {n : Nat} (h : n ≤ 9999) : okD (.int (n : Nat)) = true := by
  have h3 : (1000001 : Nat) < 2 ^ 1000 := by decide +kernel
  refine decide_eq_true ?_
  rw [Int.natAbs_natCast]
  omega
theorem okD_ins {i : Ins} (ok : i.Ok) : okD i.dat = true ∧ wD i.dat ≤ 5000 := by
  cases i with
  | again n =>
    refine ⟨?_, by show 10 * 5 + 2 + 2 + (1010 + 2 + 0) + 4 ≤ 5000; decide⟩
    show (okD (.str "again") && (okD (.int (n : Nat)) && true)) = true
    rw [okD_nat ok]; decide +kernel
  | limit n =>
    refine ⟨?_, by show 10 * 5 + 2 + 2 + (1010 + 2 + 0) + 4 ≤ 5000; decide⟩
    show (okD (.str "limit") && (okD (.int (n : Nat)) && true)) = true
    rw [okD_nat ok]; decide +kernel
  | fixed n x =>
    have hx := txt_len ok.2
    refine ⟨?_, by show 10 * 5 + 2 + 2 + (1010 + 2 + (10 * x.length + 2 + 2 + 0)) + 4 ≤ 5000; omega⟩
    show (okD (.str "fixed") && (okD (.int (n : Nat)) && (okD (.str x) && true))) = true
    rw [okD_nat ok.1, okD_str (txt_all ok.2)]; decide +kernel
  | entry n x =>
    have hx := txt_len ok.2
    refine ⟨?_, by show 10 * 5 + 2 + 2 + (1010 + 2 + (10 * x.length + 2 + 2 + 0)) + 4 ≤ 5000; omega⟩
    show (okD (.str "entry") && (okD (.int (n : Nat)) && (okD (.str x) && true))) = true
    rw [okD_nat ok.1, okD_str (txt_all ok.2)]; decide +kernel
  | new y x =>
    have hx := txt_len ok.2
    have hy := txt_len20 ok.1
    refine ⟨?_, by show 10 * 3 + 2 + 2 + (10 * y.length + 2 + 2 + (10 * x.length + 2 + 2 + 0)) + 4 ≤ 5000; omega⟩
    show (okD (.str "new") && (okD (.str y) && (okD (.str x) && true))) = true
    rw [okD_str (txt_all ok.1), okD_str (txt_all ok.2)]; decide +kernel
theorem okD_ans {i : Ans} (ok : i.Ok) : okD i.dat = true ∧ wD i.dat ≤ 5000 := by
  cases i with
  | done n =>
    have h : n ≤ 20 := ok
    refine ⟨?_, by show 10 * 4 + 2 + 2 + (1010 + 2 + 0) + 4 ≤ 5000; decide⟩
    show (okD (.str "done") && (okD (.int (n : Nat)) && true)) = true
    rw [okD_nat (by omega)]; decide +kernel
  | cancelled n =>
    have h : n ≤ 20 := ok
    refine ⟨?_, by show 10 * 9 + 2 + 2 + (1010 + 2 + 0) + 4 ≤ 5000; decide⟩
    show (okD (.str "cancelled") && (okD (.int (n : Nat)) && true)) = true
    rw [okD_nat (by omega)]; decide +kernel
  | received n =>
    refine ⟨?_, by show 10 * 8 + 2 + 2 + (1010 + 2 + 0) + 4 ≤ 5000; decide⟩
    show (okD (.str "received") && (okD (.int (n : Nat)) && true)) = true
    rw [okD_nat ok.2]; decide +kernel
theorem ins_oct_len {i : Ins} (ok : i.Ok) : i.oct.length ≤ 100000 := by
  cases i with
  | again n => have h : n ≤ 9999 := ok; have := numOct_len n 5 0; show (numOct n 5 0).length ≤ _; omega
  | limit n => have h : n ≤ 9999 := ok; have := numOct_len n 5 32; show (numOct n 5 32).length ≤ _; omega
  | fixed n x => have h := ok.1; have := numOct_len n 6 192; have := strOct_len (b := 7) (m := 0) (txt_len ok.2); show (numOct n 6 192 ++ strOct x 7 0).length ≤ _; rw [List.length_append]; omega
  | entry n x => have h := ok.1; have := numOct_len n 6 128; have := strOct_len (b := 7) (m := 0) (txt_len ok.2); show (numOct n 6 128 ++ strOct x 7 0).length ≤ _; rw [List.length_append]; omega
  | new y x => have := strOct_len (b := 5) (m := 64) (txt_len (txt_20 ok.1)); have := strOct_len (b := 7) (m := 0) (txt_len ok.2); show (strOct y 5 64 ++ strOct x 7 0).length ≤ _; rw [List.length_append]; omega
theorem ans_oct_len {i : Ans} (ok : i.Ok) : i.oct.length ≤ 100000 := by
  cases i with
  | done n => have h : n ≤ 20 := ok; have := numOct_len n 7 128; show (numOct n 7 128).length ≤ _; omega
  | cancelled n => have h : n ≤ 20 := ok; have := numOct_len n 6 64; show (numOct n 6 64).length ≤ _; omega
  | received n => have h := ok.2; have := numOct_len n 6 0; show (numOct n 6 0).length ≤ _; omega
/-! ### all octets are octets -/
theorem restOct_oct (r : Nat) : ∀ o ∈ restOct r, 0 ≤ o ∧ o < 256 := by
  induction r using Nat.strongRecOn with
  | _ r ih =>
    intro o ho
    by_cases h : r < 128
    · rw [restOct_lt h] at ho
      have := List.mem_singleton.mp ho
      omega
    · rw [restOct_ge h] at ho
      rcases List.mem_cons.mp ho with z | z
      · omega
      · exact ih (r / 128) (by omega) o z
theorem numOct_oct {n b m : Nat} (h : m + (2 ^ b - 1) ≤ 255) : ∀ o ∈ numOct n b m, 0 ≤ o ∧ o < 256 := by
  intro o ho
  unfold numOct at ho
  by_cases h1 : n < 2 ^ b - 1
  · rw [if_pos h1] at ho
    have := List.mem_singleton.mp ho
    omega
  · rw [if_neg h1] at ho
    rcases List.mem_cons.mp ho with z | z
    · omega
    · exact restOct_oct _ o z
theorem strOct_oct {x : Str} {b m : Nat} (h : m + (2 ^ b - 1) ≤ 255) (hx : x.cps.toList.all isChar = true) : ∀ o ∈ strOct x b m, 0 ≤ o ∧ o < 256 := by
  intro o ho
  rcases List.mem_append.mp ho with z | z
  · exact numOct_oct h o z
  · obtain ⟨c, hc, rfl⟩ := List.mem_map.mp z
    have h1 : (charCodes.all fun c => decide (c < 256)) = true := by decide
    have := of_decide_eq_true (List.all_eq_true.mp h1 c (List.contains_iff_mem.mp (List.all_eq_true.mp hx c hc)))
    omega
theorem app_oct {a b : List Int} (h1 : ∀ o ∈ a, 0 ≤ o ∧ o < 256) (h2 : ∀ o ∈ b, 0 ≤ o ∧ o < 256) : ∀ o ∈ a ++ b, 0 ≤ o ∧ o < 256 := fun o ho => (List.mem_append.mp ho).elim (h1 o) (h2 o)
theorem ins_oct {i : Ins} (ok : i.Ok) : ∀ o ∈ i.oct, 0 ≤ o ∧ o < 256 := by
  cases i with
  | again n => exact numOct_oct (by decide)
  | limit n => exact numOct_oct (by decide)
  | fixed n x => exact app_oct (numOct_oct (by decide)) (strOct_oct (by decide) (txt_all ok.2))
  | entry n x => exact app_oct (numOct_oct (by decide)) (strOct_oct (by decide) (txt_all ok.2))
  | new y x => exact app_oct (strOct_oct (by decide) (txt_all ok.1)) (strOct_oct (by decide) (txt_all ok.2))
theorem ans_oct {i : Ans} (ok : i.Ok) : ∀ o ∈ i.oct, 0 ≤ o ∧ o < 256 := by
  cases i with
  | _ => exact numOct_oct (by decide)
theorem octV_of {os : List Int} (h : ∀ o ∈ os, 0 ≤ o ∧ o < 256) : octV (os.map V.int) = true := by
  refine List.all_eq_true.mpr fun v hv => ?_
  obtain ⟨o, ho, rfl⟩ := List.mem_map.mp hv
  have := h o ho
  exact btw_t (by omega) (by omega)
theorem kinds_ints {K : PySem.W.Frag} {H : Hp} (os : List Int) : ∀ x ∈ os.map V.int, ∃ t, Kind K H x t := fun x hx => by
  obtain ⟨o, _, rfl⟩ := List.mem_map.mp hx
  exact ⟨"int", .int o⟩
theorem read_in {α : Type} {N M : Addr} {f : List Int → Nat → Except Nat (α × Nat)} {R : α → V → Hp → Prop} {H : Hp} {Q : VK} {E : XK} {os : List Int} {x : α} (ho : ∀ o ∈ os, 0 ≤ o ∧ o < 256) (hw : whole os f = .ok x)
    (q : ∀ v H', Same H H' → R x v H' → Q v H') : if octV (os.map V.int) = true then ∃ os' : List Int, os.map V.int = os'.map V.int ∧ RdEnd N H Q E R (whole os' f) else ∀ H', Same H H' → E (.ref M) none H' := by
  rw [if_pos (octV_of ho)]
  refine ⟨os, rfl, ?_⟩
  rw [hw]
  exact q
end Fld
/-! Lines and blocks: their values, their octets, what is read of octets. -/
namespace Fld
open PySem PySem.Spec PyProof.Rows L2
inductive Ln where
  | fix1 (n : Nat) | fix2 (n : Nat) (x : Str) | ent1 (n : Nat) | ent2 (n : Nat) (x : Str) | out (y x : Str)
def Ln.vs : Ln → List V
  | .fix1 n => [.str "fixed", .int n]
  | .fix2 n x => [.str "fixed", .int n, .str x]
  | .ent1 n => [.str "entry", .int n]
  | .ent2 n x => [.str "entry", .int n, .str x]
  | .out y x => [.str "out", .str y, .str x]
def Ln.Ok (req : Nat) : Ln → Prop
  | .fix1 n => n ≤ 9999
  | .fix2 n x => n ≤ 9999 ∧ txt (.str x) 0 40 = true
  | .ent1 n => n < req
  | .ent2 n x => n < req ∧ txt (.str x) 0 40 = true
  | .out y x => txt (.str y) 1 20 = true ∧ txt (.str x) 0 40 = true
def wholeOct (base n : Nat) : List Int := if n < base then numOct (base - n - 1) 3 128 else numOct (n - base) 2 16
def namedOct (base n : Nat) : List Int := if n < base then numOct (base - n - 1) 3 64 else numOct (n - base) 2 0
def Ln.oct (base : Nat) : Ln → List Int
  | .fix1 n => numOct n 6 192
  | .fix2 n x => numOct n 4 96 ++ strOct x 7 0
  | .ent1 n => wholeOct base n
  | .ent2 n x => namedOct base n ++ strOct x 7 0
  | .out y x => strOct y 4 32 ++ strOct x 7 0
def LnV (K : PySem.W.Frag) (H : Hp) (v : V) (l : Ln) : Prop := ∃ a, v = .ref a ∧ SqT K H a l.vs
structure Blk where
  req : Nat
  base : Nat
  ls : List Ln
structure Blk.Ok (b : Blk) : Prop where
  req_ : b.req ≤ 9999
  base_ : b.base ≤ b.req
  len_ : b.ls.length ≤ 16
  lns_ : ∀ l : Ln, l ∈ b.ls → l.Ok b.req
def lnsOct (base : Nat) (ls : List Ln) : List Int := (ls.map (Ln.oct base)).flatten
def Blk.oct (b : Blk) : List Int := (numOct b.req 8 0 ++ numOct (b.req - b.base) 8 0) ++ lnsOct b.base b.ls
inductive LnsV (K : PySem.W.Frag) (H : Hp) : List V → List Ln → Prop
  | nil : LnsV K H [] []
  | cons {x : V} {xs : List V} {l : Ln} {ls : List Ln} : LnV K H x l → LnsV K H xs ls → LnsV K H (x :: xs) (l :: ls)
def BlkV (K : PySem.W.Frag) (H : Hp) (v : V) (b : Blk) : Prop := ∃ (a t : Addr) (xs : List V), v = .ref a ∧ SqT K H a [.int b.req, .int b.base, .ref t] ∧ SqT K H t xs ∧ LnsV K H xs b.ls
theorem LnV.keep {K : PySem.W.Frag} {H H' : Hp} {v : V} {l : Ln} (s : Same H H') (h : LnV K H v l) : LnV K H' v l := let ⟨a, e, h⟩ := h; ⟨a, e, s.tup h⟩
theorem LnsV.keep {K : PySem.W.Frag} {H H' : Hp} (s : Same H H') : ∀ {xs : List V} {ls : List Ln}, LnsV K H xs ls → LnsV K H' xs ls
  | _, _, .nil => .nil
  | _, _, .cons h t => .cons (h.keep s) (t.keep s)
theorem BlkV.keep {K : PySem.W.Frag} {H H' : Hp} {v : V} {b : Blk} (s : Same H H') (h : BlkV K H v b) : BlkV K H' v b := let ⟨a, t, xs, e, h1, h2, h3⟩ := h; ⟨a, t, xs, e, s.tup h1, s.tup h2, h3.keep s⟩
theorem LnsV.len {K : PySem.W.Frag} {H : Hp} : ∀ {xs : List V} {ls : List Ln}, LnsV K H xs ls → xs.length = ls.length
  | _, _, .nil => rfl
  | _, _, .cons _ t => by rw [List.length_cons, List.length_cons, t.len]
theorem LnsV.at_ {K : PySem.W.Frag} {H : Hp} : ∀ {xs : List V} {ls : List Ln} {i : Nat} {x : V}, LnsV K H xs ls → xs[i]? = some x → ∃ l, ls[i]? = some l ∧ LnV K H x l
  | _, _, _, _, .nil, e => by simp at e
  | _, _, 0, _, .cons h _, e => by simp at e; subst e; exact ⟨_, rfl, h⟩
  | _, _, i + 1, x, .cons _ t, e => by
    obtain ⟨l, h1, h2⟩ := t.at_ (i := i) (x := x) (by simpa using e)
    exact ⟨l, by simpa using h1, h2⟩
def sp_is_line (K : PySem.W.Frag) : Sp := fun vs H Q _ => ∃ (v : V) (l : Ln) (r : Nat), vs = [v, .int r] ∧ LnV K H v l ∧ l.Ok r ∧ ∀ H', Same H H' → Q (.bl true) H'
def sp_is_block (K : PySem.W.Frag) : Sp := fun vs H Q _ => ∃ (v : V) (b : Blk), vs = [v] ∧ BlkV K H v b ∧ b.Ok ∧ ∀ H', Same H H' → Q (.bl true) H'
def sp_line_octets (K : PySem.W.Frag) : Sp := fun vs H Q _ => ∃ (v : V) (l : Ln) (base r : Nat), vs = [v, .int base] ∧ LnV K H v l ∧ l.Ok r ∧ r ≤ 9999 ∧ base ≤ r ∧ RetInts (l.oct base) H Q
def sp_write_block (K : PySem.W.Frag) : Sp := fun vs H Q _ => ∃ (v : V) (b : Blk), vs = [v] ∧ BlkV K H v b ∧ b.Ok ∧ RetInts b.oct H Q
def sp_whole_octets (named : Bool) : Sp := fun vs H Q _ => ∃ (c : Str) (n base : Nat), vs = [.str c, .int n, .int base] ∧ n ≤ 9999 ∧ base ≤ 9999 ∧
  ((c = "fixed" ∧ RetInts (if named then numOct n 4 96 else numOct n 6 192) H Q) ∨ (c = "entry" ∧ RetInts (if named then namedOct base n else wholeOct base n) H Q))
theorem wholeOct_len {base n : Nat} (h1 : base ≤ 9999) (h2 : n ≤ 9999) : (wholeOct base n).length ≤ 10001 := by
  unfold wholeOct
  by_cases h : n < base
  · rw [if_pos h]; have := numOct_len (base - n - 1) 3 128; omega
  · rw [if_neg h]; have := numOct_len (n - base) 2 16; omega
theorem namedOct_len {base n : Nat} (h1 : base ≤ 9999) (h2 : n ≤ 9999) : (namedOct base n).length ≤ 10001 := by
  unfold namedOct
  by_cases h : n < base
  · rw [if_pos h]; have := numOct_len (base - n - 1) 3 64; omega
  · rw [if_neg h]; have := numOct_len (n - base) 2 0; omega
theorem ln_len {base r : Nat} {l : Ln} (ok : l.Ok r) (hr : r ≤ 9999) (hb : base ≤ r) : (l.oct base).length ≤ 10101 := by
  cases l with
  | fix1 n => have h : n ≤ 9999 := ok; have := numOct_len n 6 192; show (numOct n 6 192).length ≤ _; omega
  | fix2 n x => have h := ok.1; have := numOct_len n 4 96; have := strOct_len (b := 7) (m := 0) (txt_len ok.2); show (numOct n 4 96 ++ strOct x 7 0).length ≤ _; rw [List.length_append]; omega
  | ent1 n => have h : n < r := ok; have := wholeOct_len (base := base) (n := n) (by omega) (by omega); show (wholeOct base n).length ≤ _; omega
  | ent2 n x => have h := ok.1; have := namedOct_len (base := base) (n := n) (by omega) (by omega); have := strOct_len (b := 7) (m := 0) (txt_len ok.2); show (namedOct base n ++ strOct x 7 0).length ≤ _; rw [List.length_append]; omega
  | out y x => have := strOct_len (b := 4) (m := 32) (txt_len (txt_20 ok.1)); have := strOct_len (b := 7) (m := 0) (txt_len ok.2); show (strOct y 4 32 ++ strOct x 7 0).length ≤ _; rw [List.length_append]; omega
theorem lns_succ {base i : Nat} {ls : List Ln} {l : Ln} (h : ls[i]? = some l) : lnsOct base (ls.take (i + 1)) = lnsOct base (ls.take i) ++ l.oct base := by
  unfold lnsOct
  rw [List.take_add_one, h]
  simp
theorem lns_len {base r : Nat} (hr : r ≤ 9999) (hb : base ≤ r) : ∀ (ls : List Ln), (∀ l ∈ ls, l.Ok r) → (lnsOct base ls).length ≤ 10101 * ls.length
  | [], _ => Nat.le_refl _
  | l :: ls, h => by
    have h1 := ln_len (base := base) (h l (List.mem_cons_self ..)) hr hb
    have h2 := lns_len hr hb ls (fun x hx => h x (List.mem_cons_of_mem _ hx))
    have e : lnsOct base (l :: ls) = l.oct base ++ lnsOct base ls := rfl
    rw [e, List.length_append, List.length_cons]
    omega
theorem lns_take_len {base r i : Nat} {ls : List Ln} (hr : r ≤ 9999) (hb : base ≤ r) (h : ∀ l ∈ ls, l.Ok r) (hn : ls.length ≤ 16) : (lnsOct base (ls.take i)).length ≤ 170000 := by
  have h1 := lns_len (base := base) hr hb (ls.take i) (fun l hl => h l (List.mem_of_mem_take hl))
  have h2 : (ls.take i).length ≤ 16 := by rw [List.length_take]; omega
  omega
end Fld
/-! reading lines and blocks: the mirror -/
namespace Fld
open PySem PySem.Spec PyProof.Rows L2
def takeWhole (os : List Int) (req base : Nat) (k : Nat) : Except Nat (Ln × Nat) :=
  match os[k]? with
  | none => .error k
  | some o => if 192 ≤ o then (takeNum os 6 192 0 9999 k).map fun z => (.fix1 z.1.toNat, z.2)
    else if 128 ≤ o then (takeNum os 3 128 0 ((base : Int) - 1) k).map fun z => (.ent1 ((base : Int) - 1 - z.1).toNat, z.2)
    else (takeNum os 2 16 0 ((req : Int) - base - 1) k).map fun z => (.ent1 ((base : Int) + z.1).toNat, z.2)
def takeNamed (os : List Int) (req base : Nat) (k : Nat) : Except Nat ((Bool × Nat) × Nat) :=
  match os[k]? with
  | none => .error k
  | some o => if 96 ≤ o then (takeNum os 4 96 0 9999 k).map fun z => ((true, z.1.toNat), z.2)
    else if 64 ≤ o then (takeNum os 3 64 0 ((base : Int) - 1) k).map fun z => ((false, ((base : Int) - 1 - z.1).toNat), z.2)
    else (takeNum os 2 0 0 ((req : Int) - base - 1) k).map fun z => ((false, ((base : Int) + z.1).toNat), z.2)
def namedLn (x : Str) : Bool × Nat → Ln
  | (true, n) => .fix2 n x
  | (false, n) => .ent2 n x
def takeLine (os : List Int) (req base : Nat) (k : Nat) : Except Nat (Ln × Nat) :=
  match os[k]? with
  | none => .error k
  | some o => if 128 ≤ o ∨ (16 ≤ o ∧ o < 32) then takeWhole os req base k
    else if 32 ≤ o ∧ o < 64 then
      (match takeStr os 4 32 1 20 k with
      | .error e => .error e
      | .ok (y, k1) => (takeStr os 7 0 0 40 k1).map fun z => (.out y z.1, z.2))
    else
      (match takeNamed os req base k with
      | .error e => .error e
      | .ok (s, k1) => (takeStr os 7 0 0 40 k1).map fun z => (namedLn z.1 s, z.2))
def takeLines (os : List Int) (req base : Nat) : Nat → Nat → Except Nat (List Ln × Nat)
  | 0, k => .ok ([], k)
  | n + 1, k => if k = os.length then .ok ([], k) else
    match takeLine os req base k with
    | .error e => .error e
    | .ok (l, k1) => (takeLines os req base n k1).map fun z => (l :: z.1, z.2)
def takeBlk (os : List Int) (k : Nat) : Except Nat (Blk × Nat) :=
  match takeNum os 8 0 0 9999 k with
  | .error e => .error e
  | .ok (r, k1) =>
    match takeNum os 8 0 0 r k1 with
    | .error e => .error e
    | .ok (d, k2) => (takeLines os r.toNat (r - d).toNat 16 k2).map fun z => (⟨r.toNat, (r - d).toNat, z.1⟩, z.2)
def rLn (K : PySem.W.Frag) : Ln → V → Hp → Prop := fun l v H => LnV K H v l
def rNm (K : PySem.W.Frag) : Bool × Nat → V → Hp → Prop := fun s v H => ∃ a, v = .ref a ∧ SqT K H a [.str (if s.1 then "fixed" else "entry"), .int s.2]
def rBlk (K : PySem.W.Frag) : Blk → V → Hp → Prop := fun b v H => BlkV K H v b
def sp_takeL (K : PySem.W.Frag) (C N : Addr) {α : Type} (f : List Int → Nat → Nat → Nat → Except Nat (α × Nat)) (R : α → V → Hp → Prop) : Sp := fun vs H Q E => ∃ (r a : Addr) (os : List Int) (k req base : Nat), vs = [.ref r, .int req, .int base] ∧ Rd K C H r a os k ∧ base ≤ req ∧ req ≤ 9999 ∧ RdRes K C N r a os H Q E R (f os req base k)
theorem sqT_but {K : PySem.W.Frag} {H H' : Hp} {p a : Addr} {xs : List V} (h : SqT K H a xs) (b : But p H H') (n1 : ∀ ys, H p ≠ some (.tup ys)) (n2 : ∀ o w, H p ≠ some (.frz o w)) : SqT K H' a xs := by
  rcases h with (h | ⟨o, h⟩) | h
  · exact .inl (.inl (b a _ (fun e => n1 _ (e ▸ h)) h))
  · exact .inl (.inr ⟨o, b a _ (fun e => n2 _ _ (e ▸ h)) h⟩)
  · exact .inr h
theorem lns_but {K : PySem.W.Frag} {H H' : Hp} {p : Addr} (b : But p H H') (n1 : ∀ ys, H p ≠ some (.tup ys)) (n2 : ∀ o w, H p ≠ some (.frz o w)) : ∀ {xs : List V} {ls : List Ln}, LnsV K H xs ls → LnsV K H' xs ls
  | _, _, .nil => .nil
  | _, _, .cons ⟨a, e, h⟩ t => .cons ⟨a, e, sqT_but h b n1 n2⟩ (lns_but b n1 n2 t)
theorem lns_app {K : PySem.W.Frag} {H : Hp} {v : V} {l : Ln} (h : LnV K H v l) : ∀ {xs : List V} {ls : List Ln}, LnsV K H xs ls → LnsV K H (xs ++ [v]) (ls ++ [l])
  | _, _, .nil => .cons h .nil
  | _, _, .cons h1 t => .cons h1 (lns_app h t)
end Fld
/-! what is written of a block is read again -/
namespace Fld
open PySem PySem.Spec PyProof.Rows L2
theorem head_at {pre os suf : List Int} {o : Int} {l : List Int} (h : os = o :: l) : (pre ++ (os ++ suf))[pre.length]? = some o := by
  rw [h, List.getElem?_append_right (Nat.le_refl _), Nat.sub_self]
  rfl
theorem p7 : ((2 ^ 7 - 1 : Nat) : Int) = 127 := rfl
theorem p6 : ((2 ^ 6 - 1 : Nat) : Int) = 63 := rfl
theorem p4 : ((2 ^ 4 - 1 : Nat) : Int) = 15 := rfl
theorem p3 : ((2 ^ 3 - 1 : Nat) : Int) = 7 := rfl
theorem p2 : ((2 ^ 2 - 1 : Nat) : Int) = 3 := rfl
theorem line_named {pre no suf : List Int} {x : Str} {req base : Nat} {s : Bool × Nat} {o : Int} {l : List Int} (hh : no = o :: l) (h0 : o < 16 ∨ (64 ≤ o ∧ o < 128)) (hx : txt (.str x) 0 40 = true) (hn : takeNamed (pre ++ (no ++ (strOct x 7 0 ++ suf))) req base pre.length = .ok (s, pre.length + no.length)) :
    takeLine (pre ++ ((no ++ strOct x 7 0) ++ suf)) req base pre.length = .ok (namedLn x s, pre.length + (no ++ strOct x 7 0).length) := by
  have h40 := txt_len hx
  have e1 : pre ++ ((no ++ strOct x 7 0) ++ suf) = pre ++ (no ++ (strOct x 7 0 ++ suf)) := by rw [List.append_assoc]
  rw [e1]
  unfold takeLine
  rw [head_at hh]
  dsimp only
  rw [if_neg (by omega), if_neg (by omega), hn]
  dsimp only
  have := takeStr_oct x 7 0 0 40 (pre ++ no) suf (txt_all hx) (by omega) (by omega) (by decide) (by decide)
  rw [List.append_assoc, List.length_append] at this
  rw [this]
  refine congrArg Except.ok (Prod.ext rfl ?_)
  show pre.length + no.length + (strOct x 7 0).length = pre.length + (no ++ strOct x 7 0).length
  rw [List.length_append]
  omega
theorem line_oct {pre suf : List Int} {req base : Nat} (hr : req ≤ 9999) (hb : base ≤ req) (l : Ln) (ok : l.Ok req) : takeLine (pre ++ (l.oct base ++ suf)) req base pre.length = .ok (l, pre.length + (l.oct base).length) := by
  have P6 := p6
  have P4 := p4
  have P3 := p3
  have P2 := p2
  cases l with
  | fix1 n =>
    have hn : n ≤ 9999 := ok
    obtain ⟨o, t, e, h1, h2⟩ := numOct_head n 6 192
    have e0 : (Ln.fix1 n).oct base = numOct n 6 192 := rfl
    rw [e0]
    unfold takeLine takeWhole
    rw [head_at e]
    dsimp only
    rw [if_pos (.inl (by omega)), if_pos (by omega), takeNum_oct n 6 192 0 9999 pre suf (by omega) (by omega) (by decide) (by decide)]
    show Except.ok (Ln.fix1 ((n : Nat) : Int).toNat, _) = _
    rw [Int.toNat_natCast]
  | fix2 n x =>
    obtain ⟨o, t, e, h1, h2⟩ := numOct_head n 4 96
    have h9 := ok.1
    refine line_named (s := (true, n)) e (by omega) ok.2 ?_
    unfold takeNamed
    rw [head_at e]
    dsimp only
    rw [if_pos (by omega), takeNum_oct n 4 96 0 9999 pre _ (by omega) (by omega) (by decide) (by decide)]
    show Except.ok ((true, ((n : Nat) : Int).toNat), _) = _
    rw [Int.toNat_natCast]
  | ent1 n =>
    have hn : n < req := ok
    have e0 : (Ln.ent1 n).oct base = wholeOct base n := rfl
    rw [e0]
    unfold wholeOct
    by_cases hlt : n < base
    · rw [if_pos hlt]
      obtain ⟨o, t, e, h1, h2⟩ := numOct_head (base - n - 1) 3 128
      unfold takeLine takeWhole
      rw [head_at e]
      dsimp only
      rw [if_pos (.inl (by omega)), if_neg (by omega), if_pos (by omega), takeNum_oct (base - n - 1) 3 128 0 ((base : Int) - 1) pre suf (by omega) (by omega) (by decide) (by omega)]
      show Except.ok (Ln.ent1 ((base : Int) - 1 - ((base - n - 1 : Nat) : Int)).toNat, _) = _
      rw [show ((base : Int) - 1 - ((base - n - 1 : Nat) : Int)).toNat = n by omega]
    · rw [if_neg hlt]
      obtain ⟨o, t, e, h1, h2⟩ := numOct_head (n - base) 2 16
      unfold takeLine takeWhole
      rw [head_at e]
      dsimp only
      rw [if_pos (.inr ⟨by omega, by omega⟩), if_neg (by omega), if_neg (by omega), takeNum_oct (n - base) 2 16 0 ((req : Int) - base - 1) pre suf (by omega) (by omega) (by decide) (by omega)]
      show Except.ok (Ln.ent1 ((base : Int) + ((n - base : Nat) : Int)).toNat, _) = _
      rw [show ((base : Int) + ((n - base : Nat) : Int)).toNat = n by omega]
  | ent2 n x =>
    have hn := ok.1
    have e0 : (Ln.ent2 n x).oct base = namedOct base n ++ strOct x 7 0 := rfl
    rw [e0]
    unfold namedOct
    by_cases hlt : n < base
    · rw [if_pos hlt]
      obtain ⟨o, t, e, h1, h2⟩ := numOct_head (base - n - 1) 3 64
      refine line_named (s := (false, n)) e (by omega) ok.2 ?_
      unfold takeNamed
      rw [head_at e]
      dsimp only
      rw [if_neg (by omega), if_pos (by omega), takeNum_oct (base - n - 1) 3 64 0 ((base : Int) - 1) pre _ (by omega) (by omega) (by decide) (by omega)]
      show Except.ok ((false, ((base : Int) - 1 - ((base - n - 1 : Nat) : Int)).toNat), _) = _
      rw [show ((base : Int) - 1 - ((base - n - 1 : Nat) : Int)).toNat = n by omega]
    · rw [if_neg hlt]
      obtain ⟨o, t, e, h1, h2⟩ := numOct_head (n - base) 2 0
      refine line_named (s := (false, n)) e (by omega) ok.2 ?_
      unfold takeNamed
      rw [head_at e]
      dsimp only
      rw [if_neg (by omega), if_neg (by omega), takeNum_oct (n - base) 2 0 0 ((req : Int) - base - 1) pre _ (by omega) (by omega) (by decide) (by omega)]
      show Except.ok ((false, ((base : Int) + ((n - base : Nat) : Int)).toNat), _) = _
      rw [show ((base : Int) + ((n - base : Nat) : Int)).toNat = n by omega]
  | out y x =>
    obtain ⟨o, t, e, h1, h2⟩ := strOct_head y 4 32
    have h40 := txt_len ok.2
    have h20 := txt_len20 ok.1
    have e0 : (Ln.out y x).oct base = strOct y 4 32 ++ strOct x 7 0 := rfl
    rw [e0, show pre ++ ((strOct y 4 32 ++ strOct x 7 0) ++ suf) = pre ++ (strOct y 4 32 ++ (strOct x 7 0 ++ suf)) by rw [List.append_assoc]]
    unfold takeLine
    rw [head_at e]
    dsimp only
    rw [if_neg (by omega), if_pos ⟨by omega, by omega⟩, takeStr_oct y 4 32 1 20 pre _ (txt_all ok.1) (by omega) (by omega) (by decide) (by decide)]
    dsimp only
    have := takeStr_oct x 7 0 0 40 (pre ++ strOct y 4 32) suf (txt_all ok.2) (by omega) (by omega) (by decide) (by decide)
    rw [List.append_assoc, List.length_append] at this
    rw [this]
    refine congrArg Except.ok (Prod.ext rfl ?_)
    show pre.length + (strOct y 4 32).length + (strOct x 7 0).length = pre.length + (strOct y 4 32 ++ strOct x 7 0).length
    rw [List.length_append]
    omega
theorem ln_pos {base : Nat} (l : Ln) : 0 < (l.oct base).length := by
  have hd : ∀ {os : List Int}, (∃ o t, os = o :: t) → 0 < os.length := fun ⟨o, t, e⟩ => by rw [e]; exact Nat.succ_pos _
  have nm : ∀ n b m, 0 < (numOct n b m).length := fun n b m => hd (let ⟨o, t, e, _⟩ := numOct_head n b m; ⟨o, t, e⟩)
  have st : ∀ x b m, 0 < (strOct x b m).length := fun x b m => hd (let ⟨o, t, e, _⟩ := strOct_head x b m; ⟨o, t, e⟩)
  cases l with
  | fix1 n => exact nm _ _ _
  | fix2 n x => show 0 < (numOct n 4 96 ++ strOct x 7 0).length; rw [List.length_append]; have := st x 7 0; omega
  | ent1 n => show 0 < (wholeOct base n).length; unfold wholeOct; split <;> exact nm _ _ _
  | ent2 n x => show 0 < (namedOct base n ++ strOct x 7 0).length; rw [List.length_append]; have := st x 7 0; omega
  | out y x => show 0 < (strOct y 4 32 ++ strOct x 7 0).length; rw [List.length_append]; have := st x 7 0; omega
theorem lines_oct {req base : Nat} (hr : req ≤ 9999) (hb : base ≤ req) : ∀ (ls : List Ln) (N : Nat) (pre : List Int), (∀ l ∈ ls, l.Ok req) → ls.length ≤ N → takeLines (pre ++ lnsOct base ls) req base N pre.length = .ok (ls, (pre ++ lnsOct base ls).length)
  | [], N, pre, _, _ => by
    have e : pre ++ lnsOct base [] = pre := List.append_nil _
    rw [e]
    cases N with
    | zero => rfl
    | succ n => rw [takeLines, if_pos rfl]
  | l :: ls, 0, pre, _, h => absurd h (Nat.not_succ_le_zero _)
  | l :: ls, n + 1, pre, ok, h => by
    have e : lnsOct base (l :: ls) = l.oct base ++ lnsOct base ls := rfl
    have hp := ln_pos (base := base) l
    rw [e, takeLines, if_neg (by rw [List.length_append, List.length_append]; omega), line_oct hr hb l (ok l (List.mem_cons_self ..))]
    dsimp only
    have ih := lines_oct hr hb ls n (pre ++ l.oct base) (fun x hx => ok x (List.mem_cons_of_mem _ hx)) (Nat.le_of_succ_le_succ h)
    rw [List.append_assoc, List.length_append] at ih
    rw [ih]
    rfl
theorem whole_blk (b : Blk) (ok : b.Ok) : whole b.oct takeBlk = .ok b := by
  have o1 := ok.req_
  have o2 := ok.base_
  obtain ⟨req, base, ls⟩ := b
  refine whole_of ?_
  dsimp only at o1 o2
  have o3 := ok.len_
  have o4 := ok.lns_
  dsimp only at o3 o4
  have e0 : (Blk.mk req base ls).oct = numOct req 8 0 ++ (numOct (req - base) 8 0 ++ lnsOct base ls) := by
    show (numOct req 8 0 ++ numOct (req - base) 8 0) ++ lnsOct base ls = _
    rw [List.append_assoc]
  have h1 := takeNum0 req 8 0 0 9999 (numOct (req - base) 8 0 ++ lnsOct base ls) (by omega) (by omega) (by decide) (by decide)
  have h2 := takeNum_oct (req - base) 8 0 0 (req : Int) (numOct req 8 0) (lnsOct base ls) (by omega) (by omega) (by decide) (by omega)
  have h3 := lines_oct (pre := numOct req 8 0 ++ numOct (req - base) 8 0) o1 o2 ls 16 o4 o3
  unfold takeBlk
  rw [e0, h1]
  dsimp only
  rw [h2]
  dsimp only
  rw [List.append_assoc, List.length_append] at h3
  have eb : ((req : Int) - ((req - base : Nat) : Int)).toNat = base := by omega
  rw [Int.toNat_natCast, eb, h3]
  rfl
end Fld
/-! lines and blocks as data; how the laws draw them -/
namespace Fld
open PySem PySem.Spec PyProof.Rows L2
def Ln.dat : Ln → PyData
  | .fix1 n => .tuple [.str "fixed", .int n]
  | .fix2 n x => .tuple [.str "fixed", .int n, .str x]
  | .ent1 n => .tuple [.str "entry", .int n]
  | .ent2 n x => .tuple [.str "entry", .int n, .str x]
  | .out y x => .tuple [.str "out", .str y, .str x]
def Blk.dat (b : Blk) : PyData := .tuple [.int b.req, .int b.base, .tuple (b.ls.map Ln.dat)]
theorem dp_ln {K : PySem.W.Frag} {H : Hp} {a : Addr} {l : Ln} (h : SqT K H a l.vs) : Dp K H (.ref a) l.dat := by
  cases l with
  | fix1 n => exact .tup h (.cons (.str _) (.cons (.int _) .nil))
  | fix2 n x => exact .tup h (.cons (.str _) (.cons (.int _) (.cons (.str _) .nil)))
  | ent1 n => exact .tup h (.cons (.str _) (.cons (.int _) .nil))
  | ent2 n x => exact .tup h (.cons (.str _) (.cons (.int _) (.cons (.str _) .nil)))
  | out y x => exact .tup h (.cons (.str _) (.cons (.str _) (.cons (.str _) .nil)))
theorem dp_lns {K : PySem.W.Frag} {H : Hp} : ∀ {xs : List V} {ls : List Ln}, LnsV K H xs ls → DpAll K H xs (ls.map Ln.dat)
  | _, _, .nil => .nil
  | _, _, .cons ⟨_, e, h⟩ t => .cons (e ▸ dp_ln h) (dp_lns t)
theorem dp_blk {K : PySem.W.Frag} {H : Hp} {v : V} {b : Blk} (h : BlkV K H v b) : Dp K H v b.dat := by
  obtain ⟨a, t, xs, rfl, h1, h2, h3⟩ := h
  exact .tup h1 (.cons (.int _) (.cons (.int _) (.cons (.tup h2 (dp_lns h3)) .nil)))
theorem dle_ln (n : Nat) (l : Ln) : DLe (n + 1) l.dat := by
  cases l with
  | fix1 k => exact dle_2 (dle_str _ _) (dle_int _ _)
  | fix2 k x => exact dle_3 (dle_str _ _) (dle_int _ _) (dle_str _ _)
  | ent1 k => exact dle_2 (dle_str _ _) (dle_int _ _)
  | ent2 k x => exact dle_3 (dle_str _ _) (dle_int _ _) (dle_str _ _)
  | out y x => exact dle_3 (dle_str _ _) (dle_str _ _) (dle_str _ _)
theorem dle_blk (n : Nat) {b : Blk} (ok : b.Ok) : DLe (n + 3) b.dat := by
  refine dle_3 (dle_int _ _) (dle_int _ _) ⟨?_, fun d hd => ?_⟩
  · rw [List.length_map]; have := ok.len_; omega
  · obtain ⟨l, _, rfl⟩ := List.mem_map.mp hd
    exact dle_ln n l
theorem okD_ln {r : Nat} {l : Ln} (hr : r ≤ 9999) (ok : l.Ok r) : okD l.dat = true ∧ wD l.dat ≤ 5000 := by
  cases l with
  | fix1 n =>
    refine ⟨?_, by show 10 * 5 + 2 + 2 + (1010 + 2 + 0) + 4 ≤ 5000; decide⟩
    show (okD (.str "fixed") && (okD (.int (n : Nat)) && true)) = true
    rw [okD_nat ok]; decide +kernel
  | ent1 n =>
    have h : n < r := ok
    refine ⟨?_, by show 10 * 5 + 2 + 2 + (1010 + 2 + 0) + 4 ≤ 5000; decide⟩
    show (okD (.str "entry") && (okD (.int (n : Nat)) && true)) = true
    rw [okD_nat (by omega)]; decide +kernel
  | fix2 n x =>
    have hx := txt_len ok.2
    refine ⟨?_, by show 10 * 5 + 2 + 2 + (1010 + 2 + (10 * x.length + 2 + 2 + 0)) + 4 ≤ 5000; omega⟩
    show (okD (.str "fixed") && (okD (.int (n : Nat)) && (okD (.str x) && true))) = true
    rw [okD_nat ok.1, okD_str (txt_all ok.2)]; decide +kernel
  | ent2 n x =>
    have hx := txt_len ok.2
    have h := ok.1
    refine ⟨?_, by show 10 * 5 + 2 + 2 + (1010 + 2 + (10 * x.length + 2 + 2 + 0)) + 4 ≤ 5000; omega⟩
    show (okD (.str "entry") && (okD (.int (n : Nat)) && (okD (.str x) && true))) = true
    rw [okD_nat (by omega), okD_str (txt_all ok.2)]; decide +kernel
  | out y x =>
    have hx := txt_len ok.2
    have hy := txt_len20 ok.1
    refine ⟨?_, by show 10 * 3 + 2 + 2 + (10 * y.length + 2 + 2 + (10 * x.length + 2 + 2 + 0)) + 4 ≤ 5000; omega⟩
    show (okD (.str "out") && (okD (.str y) && (okD (.str x) && true))) = true
    rw [okD_str (txt_all ok.1), okD_str (txt_all ok.2)]; decide +kernel
theorem okD_lns {r : Nat} (hr : r ≤ 9999) : ∀ {ls : List Ln}, (∀ l ∈ ls, l.Ok r) → okAll (ls.map Ln.dat) = true ∧ wAll (ls.map Ln.dat) ≤ 5002 * ls.length
  | [], _ => ⟨rfl, Nat.le_refl _⟩
  | l :: ls, h => by
    have h1 := okD_ln hr (h l (List.mem_cons_self ..))
    have h2 := okD_lns hr (ls := ls) fun x hx => h x (List.mem_cons_of_mem _ hx)
    refine ⟨?_, ?_⟩
    · show (okD l.dat && okAll (ls.map Ln.dat)) = true
      rw [h1.1, h2.1]; rfl
    · show wD l.dat + 2 + wAll (ls.map Ln.dat) ≤ 5002 * (ls.length + 1)
      have := h1.2
      have := h2.2
      omega
theorem okD_blk {b : Blk} (ok : b.Ok) : okD b.dat = true ∧ wD b.dat ≤ 10000000 := by
  have h := okD_lns ok.req_ ok.lns_
  have h1 := ok.req_
  have h2 := ok.base_
  have h3 := ok.len_
  refine ⟨?_, ?_⟩
  · show (okD (.int (b.req : Nat)) && (okD (.int (b.base : Nat)) && (okAll (b.ls.map Ln.dat) && true))) = true
    rw [okD_nat h1, okD_nat (by omega), h.1]; rfl
  · show 1010 + 2 + (1010 + 2 + (wAll (b.ls.map Ln.dat) + 4 + 2 + 0)) + 4 ≤ 10000000
    have := h.2
    omega
theorem blk_len {b : Blk} (ok : b.Ok) : b.oct.length ≤ 1000000 ∧ b.oct.length ≤ 200000 := by
  have h := lns_len ok.req_ ok.base_ b.ls ok.lns_
  have h1 := ok.req_
  have h2 := ok.base_
  have h3 := ok.len_
  have l1 := numOct_len b.req 8 0
  have l2 := numOct_len (b.req - b.base) 8 0
  unfold Blk.oct
  rw [List.length_append, List.length_append]
  omega
theorem ln_octs {base r : Nat} {l : Ln} (ok : l.Ok r) : ∀ o ∈ l.oct base, 0 ≤ o ∧ o < 256 := by
  cases l with
  | fix1 n => exact numOct_oct (by decide)
  | fix2 n x => exact app_oct (numOct_oct (by decide)) (strOct_oct (by decide) (txt_all ok.2))
  | ent1 n => show ∀ o ∈ wholeOct base n, _; unfold wholeOct; split <;> exact numOct_oct (by decide)
  | ent2 n x =>
    refine app_oct ?_ (strOct_oct (by decide) (txt_all ok.2))
    unfold namedOct; split <;> exact numOct_oct (by decide)
  | out y x => exact app_oct (strOct_oct (by decide) (txt_all ok.1)) (strOct_oct (by decide) (txt_all ok.2))
theorem lns_octs {base r : Nat} : ∀ {ls : List Ln}, (∀ l ∈ ls, l.Ok r) → ∀ o ∈ lnsOct base ls, 0 ≤ o ∧ o < 256
  | [], _ => fun o ho => nomatch ho
  | l :: ls, h => app_oct (ln_octs (h l (List.mem_cons_self ..))) (lns_octs (ls := ls) fun x hx => h x (List.mem_cons_of_mem _ hx))
theorem blk_octs {b : Blk} (ok : b.Ok) : ∀ o ∈ b.oct, 0 ≤ o ∧ o < 256 := app_oct (app_oct (numOct_oct (by decide)) (numOct_oct (by decide))) (lns_octs ok.lns_)
def sp_law_draw_line : Sp := fun vs H Q _ => ∃ (p c : Addr) (n req : Nat), vs = [.ref p, .int req] ∧ Pen H p c n ∧ n ≤ 700000 ∧ req ≤ 9999 ∧ ∀ (a : Addr) (l : Ln) H', H' a = some (.tup l.vs) → l.Ok req → Drew p c H H' (n + 200) → Q (.ref a) H'
def sp_law_draw_block (K : PySem.W.Frag) : Sp := fun vs H Q _ => ∃ (p c : Addr) (n : Nat), vs = [.ref p] ∧ Pen H p c n ∧ n ≤ 600000 ∧ ∀ v (b : Blk) H', BlkV K H' v b → b.Ok → Drew p c H H' (n + 4000) → Q v H'
theorem restOct_len2 {r : Nat} (h : r < 16384) : (restOct r).length ≤ 2 := by
  by_cases h1 : r < 128
  · rw [restOct_lt h1]; show 1 ≤ 2; decide
  · rw [restOct_ge h1, restOct_lt (show r / 128 < 128 by omega)]; show 2 ≤ 2; decide
theorem numOct_len3 {n b m : Nat} (h : n ≤ 9999) : (numOct n b m).length ≤ 3 := by
  unfold numOct
  by_cases h1 : n < 2 ^ b - 1
  · rw [if_pos h1]; show 1 ≤ 3; decide
  · rw [if_neg h1, List.length_cons]
    have := restOct_len2 (r := n - (2 ^ b - 1)) (by omega)
    omega
theorem strOct_len2 {x : Str} {b m : Nat} (h : x.length ≤ 40) : (strOct x b m).length ≤ 43 := by
  unfold strOct
  have := numOct_len3 (n := x.length) (b := b) (m := m) (by omega)
  rw [List.length_append, List.length_map, ← str_len]
  omega
theorem ln_len2 {base r : Nat} {l : Ln} (ok : l.Ok r) (hr : r ≤ 9999) (hb : base ≤ r) : (l.oct base).length ≤ 90 := by
  cases l with
  | fix1 n => have h : n ≤ 9999 := ok; have := numOct_len3 (b := 6) (m := 192) h; show (numOct n 6 192).length ≤ _; omega
  | fix2 n x => have := numOct_len3 (b := 4) (m := 96) ok.1; have := strOct_len2 (b := 7) (m := 0) (txt_len ok.2); show (numOct n 4 96 ++ strOct x 7 0).length ≤ _; rw [List.length_append]; omega
  | ent1 n =>
    have h : n < r := ok
    show (wholeOct base n).length ≤ _
    unfold wholeOct
    split
    · have := numOct_len3 (n := base - n - 1) (b := 3) (m := 128) (by omega); omega
    · have := numOct_len3 (n := n - base) (b := 2) (m := 16) (by omega); omega
  | ent2 n x =>
    have h := ok.1
    have := strOct_len2 (b := 7) (m := 0) (txt_len ok.2)
    show (namedOct base n ++ strOct x 7 0).length ≤ _
    rw [List.length_append]
    unfold namedOct
    split
    · have := numOct_len3 (n := base - n - 1) (b := 3) (m := 64) (by omega); omega
    · have := numOct_len3 (n := n - base) (b := 2) (m := 0) (by omega); omega
  | out y x => have := strOct_len2 (b := 4) (m := 32) (txt_len (txt_20 ok.1)); have := strOct_len2 (b := 7) (m := 0) (txt_len ok.2); show (strOct y 4 32 ++ strOct x 7 0).length ≤ _; rw [List.length_append]; omega
theorem lns_len2 {base r : Nat} (hr : r ≤ 9999) (hb : base ≤ r) : ∀ (ls : List Ln), (∀ l ∈ ls, l.Ok r) → (lnsOct base ls).length ≤ 90 * ls.length
  | [], _ => Nat.le_refl _
  | l :: ls, h => by
    have h1 := ln_len2 (base := base) (h l (List.mem_cons_self ..)) hr hb
    have h2 := lns_len2 hr hb ls (fun x hx => h x (List.mem_cons_of_mem _ hx))
    have e : lnsOct base (l :: ls) = l.oct base ++ lnsOct base ls := rfl
    rw [e, List.length_append, List.length_cons]
    omega
theorem blk_len2 {b : Blk} (ok : b.Ok) : b.oct.length ≤ 2000 := by
  have h := lns_len2 ok.req_ ok.base_ b.ls ok.lns_
  have h1 := ok.req_
  have h2 := ok.base_
  have h3 := ok.len_
  have l1 := numOct_len3 (b := 8) (m := 0) h1
  have l2 := numOct_len3 (n := b.req - b.base) (b := 8) (m := 0) (by omega)
  unfold Blk.oct
  rw [List.length_append, List.length_append]
  omega
end Fld
/-! what a line, a block is, over data of any kind -/
namespace Fld
open PySem PySem.Spec PyProof.Rows L2
def dLine (req : Int) : PyData → Bool
  | .tuple [k, n] => if isS k "fixed" then dBtw n 0 9999 else isS k "entry" && dBtw n 0 (req - 1)
  | .tuple [k, n, x] => dTxt x 0 40 && (if isS k "fixed" then dBtw n 0 9999 else if isS k "entry" then dBtw n 0 (req - 1) else isS k "out" && dTxt n 1 20)
  | _ => false
def dBlk3 : PyData → PyData → PyData → Bool
  | .int r, b, .tuple ls => dBtw (.int r) 0 9999 && dBtw b 0 r && decide (ls.length ≤ 16) && ls.all (dLine r)
  | _, _, _ => false
def dBlock : PyData → Bool
  | .tuple [r, b, l] => dBlk3 r b l
  | _ => false
def sp_chkLn (K : PySem.W.Frag) : Sp := fun vs H Q _ => ∃ (v : V) (d : PyData) (r : Int), vs = [v, .int r] ∧ Dv K H v d ∧ Lim d ∧ ∀ H', Same H H' → Q (.bl (dLine r d)) H'
/-- a write that refuses what is none -/
def sp_write_any (K : PySem.W.Frag) (N : Addr) (f : PyData → Bool) : Sp := fun vs H Q E => ∃ (v : V) (d : PyData), vs = [v] ∧ Dv K H v d ∧ Lim d ∧ (f d = true → ∀ v' H', Same H H' → Q v' H') ∧ (f d = false → ∀ H', Same H H' → E (.ref N) none H')
/-- refused, or not -/
def sp_refused (K : PySem.W.Frag) (f : PyData → Bool) : Sp := fun vs H Q _ => ∃ (v : V) (d : PyData), vs = [v] ∧ Dv K H v d ∧ Lim d ∧ ∀ H', Same H H' → Q (.bl (!f d)) H'
theorem dLine_ne {r : Int} {ds : List PyData} (h2 : ds.length ≠ 2) (h3 : ds.length ≠ 3) : dLine r (.tuple ds) = false := by
  match ds, h2, h3 with
  | [], _, _ => rfl
  | [_], _, _ => rfl
  | [_, _], h, _ => exact absurd rfl h
  | [_, _, _], _, h => exact absurd rfl h
  | _ :: _ :: _ :: _ :: _, _, _ => rfl
theorem dLine_no {r : Int} {d : PyData} (e : subT (tyD d) "tuple" = false) : dLine r d = false := by
  rw [sub_tup] at e
  cases d <;> first | rfl | cases e
theorem dBlock_no {d : PyData} (e : subT (tyD d) "tuple" = false) : dBlock d = false := by
  rw [sub_tup] at e
  cases d <;> first | rfl | cases e
theorem dBlock_ne {ds : List PyData} (h : ds.length ≠ 3) : dBlock (.tuple ds) = false := by
  match ds, h with
  | [], _ => rfl
  | [_], _ => rfl
  | [_, _], _ => rfl
  | [_, _, _], h => exact absurd rfl h
  | _ :: _ :: _ :: _ :: _, _ => rfl
theorem blk3_num {r b l : PyData} (e : dBtw r 0 9999 = false) : dBlk3 r b l = false := by
  cases r <;> first | rfl | skip
  cases l <;> first | rfl | skip
  show (dBtw _ 0 9999 && _ && _ && _) = false
  rw [e]; rfl
theorem btw_int {d : PyData} {a b : Int} (e : dBtw d a b = true) : ∃ i : Int, d = .int i ∧ a ≤ i ∧ i ≤ b := by
  cases d <;> first | (cases e; done) | skip
  rename_i i
  have e' : (decide (a ≤ i) && decide (i ≤ b)) = true := e
  rw [Bool.and_eq_true, decide_eq_true_eq, decide_eq_true_eq] at e'
  exact ⟨i, rfl, e'.1, e'.2⟩
theorem isS_str {d : PyData} {z : Str} (e : isS d z = true) : d = .str z := by
  cases d <;> first | (cases e; done) | skip
  rename_i x
  have : x = z := of_decide_eq_true e
  rw [this]
theorem txt_str {d : PyData} {a b : Int} (e : dTxt d a b = true) : ∃ x, d = .str x ∧ txt (.str x) a b = true := by
  cases d <;> first | (cases e; done) | skip
  rename_i x
  exact ⟨x, rfl, e⟩
theorem Dv.sInt {K : PySem.W.Frag} {H : Hp} {v : V} {i : Int} (h : Dv K H v (.int i)) : v = .int i := by cases h; rfl
theorem Dv.sStr {K : PySem.W.Frag} {H : Hp} {v : V} {x : Str} (h : Dv K H v (.str x)) : v = .str x := by cases h; rfl
theorem Dv.sTup {K : PySem.W.Frag} {H : Hp} {v : V} {ds : List PyData} (h : Dv K H v (.tuple ds)) : ∃ a xs, v = .ref a ∧ SqT K H a xs ∧ DvAll K H xs ds := by
  cases h with
  | tup hs ha => exact ⟨_, _, rfl, hs, ha⟩
theorem Dv.sLst {K : PySem.W.Frag} {H : Hp} {v : V} {ds : List PyData} (h : Dv K H v (.list ds)) : ∃ a xs, v = .ref a ∧ SqL K H a xs ∧ DvAll K H xs ds := by
  cases h with
  | lst hs ha => exact ⟨_, _, rfl, hs, ha⟩
theorem ln_of {K : PySem.W.Frag} {H : Hp} {v : V} {d : PyData} {r : Nat} (h : Dv K H v d) (e : dLine r d = true) : ∃ l : Ln, LnV K H v l ∧ l.Ok r := by
  match d, h, e with
  | .tuple [k, n], h, e =>
    obtain ⟨a, xs, rfl, hs, ha⟩ := h.sTup
    obtain ⟨x0, x1, d0, d1, rfl, e2, h0, h1⟩ := len2 ha (by rw [ha.len]; rfl)
    injection e2 with e3 e4
    injection e4 with e4 _
    subst e3 e4
    have e' : (if isS k "fixed" = true then dBtw n 0 9999 else isS k "entry" && dBtw n 0 ((r : Int) - 1)) = true := e
    by_cases c : isS k "fixed" = true
    · rw [if_pos c] at e'
      obtain ⟨i, rfl, i0, i1⟩ := btw_int e'
      have := isS_str c; subst this
      have := h0.sStr; subst this
      have := h1.sInt; subst this
      obtain ⟨m, rfl⟩ : ∃ m : Nat, i = (m : Int) := ⟨i.toNat, by omega⟩
      exact ⟨.fix1 m, ⟨a, rfl, hs⟩, by show m ≤ 9999; omega⟩
    · rw [if_neg c, Bool.and_eq_true] at e'
      obtain ⟨i, rfl, i0, i1⟩ := btw_int e'.2
      have := isS_str e'.1; subst this
      have := h0.sStr; subst this
      have := h1.sInt; subst this
      obtain ⟨m, rfl⟩ : ∃ m : Nat, i = (m : Int) := ⟨i.toNat, by omega⟩
      exact ⟨.ent1 m, ⟨a, rfl, hs⟩, by show m < r; omega⟩
  | .tuple [k, n, x], h, e =>
    obtain ⟨a, xs, rfl, hs, ha⟩ := h.sTup
    obtain ⟨x0, x1, x2, d0, d1, d2, rfl, e2, h0, h1, h2⟩ := len3 ha (by rw [ha.len]; rfl)
    injection e2 with e3 e4
    injection e4 with e4 e5
    injection e5 with e5 _
    subst e3 e4 e5
    have e' : (dTxt x 0 40 && (if isS k "fixed" = true then dBtw n 0 9999 else if isS k "entry" = true then dBtw n 0 ((r : Int) - 1) else isS k "out" && dTxt n 1 20)) = true := e
    rw [Bool.and_eq_true] at e'
    obtain ⟨y, rfl, hy⟩ := txt_str e'.1
    have := h2.sStr; subst this
    have e6 := e'.2
    by_cases c : isS k "fixed" = true
    · rw [if_pos c] at e6
      obtain ⟨i, rfl, i0, i1⟩ := btw_int e6
      have := isS_str c; subst this
      have := h0.sStr; subst this
      have := h1.sInt; subst this
      obtain ⟨m, rfl⟩ : ∃ m : Nat, i = (m : Int) := ⟨i.toNat, by omega⟩
      exact ⟨.fix2 m y, ⟨a, rfl, hs⟩, by omega, hy⟩
    · rw [if_neg c] at e6
      by_cases c2 : isS k "entry" = true
      · rw [if_pos c2] at e6
        obtain ⟨i, rfl, i0, i1⟩ := btw_int e6
        have := isS_str c2; subst this
        have := h0.sStr; subst this
        have := h1.sInt; subst this
        obtain ⟨m, rfl⟩ : ∃ m : Nat, i = (m : Int) := ⟨i.toNat, by omega⟩
        exact ⟨.ent2 m y, ⟨a, rfl, hs⟩, by omega, hy⟩
      · rw [if_neg c2, Bool.and_eq_true] at e6
        obtain ⟨z, rfl, hz⟩ := txt_str e6.2
        have := isS_str e6.1; subst this
        have := h0.sStr; subst this
        have := h1.sStr; subst this
        exact ⟨.out z y, ⟨a, rfl, hs⟩, hz, hy⟩
theorem lns_of {K : PySem.W.Frag} {H : Hp} {r : Nat} : ∀ {xs : List V} {ds : List PyData}, DvAll K H xs ds → ds.all (dLine r) = true → ∃ ls : List Ln, LnsV K H xs ls ∧ ∀ l ∈ ls, l.Ok r
  | _, _, .nil, _ => ⟨[], .nil, fun l hl => nomatch hl⟩
  | _, _, .cons h t, e => by
    rw [List.all_cons, Bool.and_eq_true] at e
    obtain ⟨l, hl, ok⟩ := ln_of h e.1
    obtain ⟨ls, hls, oks⟩ := lns_of t e.2
    refine ⟨l :: ls, .cons hl hls, fun x hx => ?_⟩
    rcases List.mem_cons.mp hx with rfl | hx
    · exact ok
    · exact oks x hx
theorem blk_of {K : PySem.W.Frag} {H : Hp} {v : V} {d : PyData} (h : Dv K H v d) (e : dBlock d = true) : ∃ b : Blk, BlkV K H v b ∧ b.Ok := by
  match d, h, e with
  | .tuple [r, b, l], h, e =>
    obtain ⟨a, xs, rfl, hs, ha⟩ := h.sTup
    obtain ⟨x0, x1, x2, d0, d1, d2, rfl, e2, h0, h1, h2⟩ := len3 ha (by rw [ha.len]; rfl)
    injection e2 with e3 e4
    injection e4 with e4 e5
    injection e5 with e5 _
    subst e3 e4 e5
    match r, b, l, e, h0, h1, h2 with
    | .int r, b, .tuple ls, e, h0, h1, h2 =>
      have e' : (dBtw (.int r) 0 9999 && dBtw b 0 r && decide (ls.length ≤ 16) && ls.all (dLine r)) = true := e
      rw [Bool.and_eq_true, Bool.and_eq_true, Bool.and_eq_true, decide_eq_true_eq] at e'
      obtain ⟨⟨⟨q1, q2⟩, q3⟩, q4⟩ := e'
      obtain ⟨i, ei, i0, i1⟩ := btw_int q1
      injection ei with ei; subst ei
      obtain ⟨j, rfl, j0, j1⟩ := btw_int q2
      have := h0.sInt; subst this
      have := h1.sInt; subst this
      obtain ⟨t, ys, rfl, ht, hy⟩ := h2.sTup
      obtain ⟨m, rfl⟩ : ∃ m : Nat, r = (m : Int) := ⟨r.toNat, by omega⟩
      obtain ⟨k, rfl⟩ : ∃ m : Nat, j = (m : Int) := ⟨j.toNat, by omega⟩
      obtain ⟨ks, hk, ok⟩ := lns_of hy q4
      refine ⟨⟨m, k, ks⟩, ⟨a, t, ys, rfl, hs, ht, hk⟩, by show m ≤ 9999; omega, by show k ≤ m; omega, ?_, ok⟩
      show ks.length ≤ 16
      have := hk.len
      have := hy.len
      omega
end Fld
namespace Fld
open PySem PySem.Spec PyProof.Rows L2
theorem in23 (n : Nat) : inV (.int (n : Nat)) [.int 2, .int 3] = (decide (n = 2) || decide (n = 3)) := by
  show (eqV (.int 2) (.int n) || (eqV (.int 3) (.int n) || false)) = _
  have h : ∀ m : Int, eqV (.int m) (.int (n : Int)) = decide ((n : Int) = m) := fun m => by
    show (m == (n : Int)) = _
    rw [Bool.eq_iff_iff, beq_iff_eq, decide_eq_true_iff]
    exact ⟨fun h => h.symm, fun h => h.symm⟩
  rw [h, h, Bool.or_false]
  congr 1
  · exact decide_eq_decide.mpr ⟨fun h => by omega, fun h => by omega⟩
  · exact decide_eq_decide.mpr ⟨fun h => by omega, fun h => by omega⟩
theorem in23_no {n : Nat} (e : (!inV (.int (n : Nat)) [.int 2, .int 3]) = true) : n ≠ 2 ∧ n ≠ 3 := by
  rw [in23] at e
  have e' := nb e
  rw [Bool.or_eq_false_iff, decide_eq_false_iff_not, decide_eq_false_iff_not] at e'
  exact e'
theorem in23_yes {n : Nat} (e : (!inV (.int (n : Nat)) [.int 2, .int 3]) = false) : n = 2 ∨ n = 3 := by
  rw [in23] at e
  have e' := nb' e
  rw [Bool.or_eq_true, decide_eq_true_iff, decide_eq_true_iff] at e'
  exact e'
end Fld
namespace Fld
open PySem PySem.Spec PyProof.Rows L2
theorem decS {a b : Str} : decide (V.str a = V.str b) = isS (.str a) b := by
  show _ = decide (a = b)
  exact decide_eq_decide.mpr ⟨fun h => by injection h, fun h => by rw [h]⟩
theorem isS_no {d : PyData} {z : Str} (e : subT (tyD d) "str" = false) : isS d z = false := by
  rw [sub_str] at e
  cases d <;> first | rfl | cases e
theorem isS_eq {d : PyData} {a b : Str} (e : isS d a = true) (h : decide (a = b) = false) : isS d b = false := by
  rw [isS_str e]; exact h
end Fld
/-! tuples by their data: slices, +, *, turned about -/
namespace Fld
open PySem PySem.Spec PyProof.Rows L2
section
variable {K : PySem.W.Frag} {S : List Addr} {H : Hp} {v u : V} {ds es : List PyData} {Q : VK}
theorem slA_to (k : Nat) (h : Dv K (OffS S H) v (.tuple ds)) (hS : Hid S H) (q : ∀ r H', Same H H' → Dv K (OffS S H') r (.tuple (ds.take k)) → Q r H') : rSlA K v none (some (k : Int)) H Q := by
  obtain ⟨a, xs, rfl, hs, ha⟩ := h.sTup
  have hl := ha.len
  refine ⟨a, xs, rfl, (off_sub S H).tup hs, fun w => ?_, fun _ p hp => ?_⟩
  · have h2 := w.2
    rw [HT.sIx_nat] at h2
    have hk : ds.take k = ds := List.take_of_length_le (by omega)
    refine q _ H (Same.refl _) ?_
    rw [hk]; exact .tup hs ha
  · rw [cut_to]
    exact q _ _ (Same.new hp) (new_tup hp hS (ha.take k))
theorem slA_from (k : Nat) (h : Dv K (OffS S H) v (.tuple ds)) (hS : Hid S H) (q : ∀ r H', Same H H' → Dv K (OffS S H') r (.tuple (ds.drop k)) → Q r H') : rSlA K v (some (k : Int)) none H Q := by
  obtain ⟨a, xs, rfl, hs, ha⟩ := h.sTup
  have hl := ha.len
  refine ⟨a, xs, rfl, (off_sub S H).tup hs, fun w => ?_, fun _ p hp => ?_⟩
  · have h2 := w.1
    rw [HT.sIx_nat] at h2
    refine q _ H (Same.refl _) ?_
    rcases Nat.eq_zero_or_pos k with h0 | h0
    · rw [h0, List.drop_zero]; exact .tup hs ha
    · have hx : xs = [] := List.length_eq_zero_iff.mp (by omega)
      subst hx
      cases ha
      rw [List.drop_nil]
      exact .tup hs .nil
  · rw [cut_from]
    exact q _ _ (Same.new hp) (new_tup hp hS (ha.drop k))
theorem catA (h : Dv K (OffS S H) v (.tuple ds)) (h2 : Dv K (OffS S H) u (.tuple es)) (hS : Hid S H) (hz : ds.length + es.length ≤ sizeLine) (q : ∀ r H', Same H H' → Dv K (OffS S H') r (.tuple (ds ++ es)) → Q r H') : rCatA K v u H Q := by
  obtain ⟨a, xs, rfl, hs, ha⟩ := h.sTup
  obtain ⟨b, ys, rfl, hs2, ha2⟩ := h2.sTup
  have hl := ha.len
  have hl2 := ha2.len
  refine ⟨a, b, xs, ys, rfl, rfl, (off_sub S H).tup hs, (off_sub S H).tup hs2, by omega, fun e => ?_, fun _ e => ?_, fun _ _ p hp => ?_⟩
  · subst e
    cases ha
    exact q _ H (Same.refl _) (.tup hs2 ha2)
  · subst e
    cases ha2
    refine q _ H (Same.refl _) ?_
    rw [List.append_nil]
    exact .tup hs ha
  · exact q _ _ (Same.new hp) (new_tup hp hS (ha.app ha2))
theorem repA {d : PyData} (k : Nat) (h : Dv K (OffS S H) v (.tuple [d])) (hS : Hid S H) (h2 : 2 ≤ k) (hk : k ≤ 1000) (q : ∀ r H', Same H H' → Dv K (OffS S H') r (.tuple (List.replicate k d)) → Q r H') : rRepT K v (.int (k : Int)) H Q := by
  obtain ⟨a, xs, rfl, hs, ha⟩ := h.sTup
  cases ha with
  | cons h1 t =>
    cases t
    rename_i x
    refine ⟨a, k, [x], rfl, rfl, (off_sub S H).tup hs, by simp, by omega, by omega, by show 1 ≤ 1000; decide, fun p hp => ?_⟩
    rw [Int.toNat_natCast]
    have e : (List.replicate k [x]).flatten = List.replicate k x := by
      clear hk h2 q
      induction k with
      | zero => rfl
      | succ n ih => rw [List.replicate_succ, List.flatten_cons, ih, List.replicate_succ]; rfl
    rw [e]
    exact q _ _ (Same.new hp) (new_tup hp hS (DvAll.rep h1 k))
theorem DvAll.rev {K : PySem.W.Frag} {H : Hp} : ∀ {xs : List V} {ds : List PyData}, DvAll K H xs ds → DvAll K H xs.reverse ds.reverse
  | _, _, .nil => .nil
  | _, _, .cons h t => by
    rw [List.reverse_cons, List.reverse_cons]
    exact (DvAll.rev t).app (.cons h .nil)
end
/-- a tuple's items but one -/
theorem depthAll_app {k : Nat} {xs ys : List PyData} (h1 : PyData.depthAll xs ≤ k) (h2 : PyData.depthAll ys ≤ k) : PyData.depthAll (xs ++ ys) ≤ k := depthAll_le fun d hd => by
  rcases List.mem_append.mp hd with h | h
  · exact Nat.le_trans (depthAll_mem h) h1
  · exact Nat.le_trans (depthAll_mem h) h2
theorem depthAll_take {k : Nat} {xs : List PyData} (n : Nat) (h : PyData.depthAll xs ≤ k) : PyData.depthAll (xs.take n) ≤ k := depthAll_le fun d hd => Nat.le_trans (depthAll_mem (List.mem_of_mem_take hd)) h
theorem depthAll_drop {k : Nat} {xs : List PyData} (n : Nat) (h : PyData.depthAll xs ≤ k) : PyData.depthAll (xs.drop n) ≤ k := depthAll_le fun d hd => Nat.le_trans (depthAll_mem (List.mem_of_mem_drop hd)) h
theorem okVAll_take {xs : List PyData} (n : Nat) (h : okVAll xs = true) : okVAll (xs.take n) = true := okVAll_of fun d hd => okVAll_mem h (List.mem_of_mem_take hd)
theorem okVAll_drop {xs : List PyData} (n : Nat) (h : okVAll xs = true) : okVAll (xs.drop n) = true := okVAll_of fun d hd => okVAll_mem h (List.mem_of_mem_drop hd)
theorem okVAll_app' {xs ys : List PyData} (h1 : okVAll xs = true) (h2 : okVAll ys = true) : okVAll (xs ++ ys) = true := by rw [okVAll_app, h1, h2]; rfl
theorem wVAll_cut {ds : List PyData} {k : Nat} {d : PyData} (h : ds[k]? = some d) : wVAll (ds.take k) + (wV d + 2) + wVAll (ds.drop (k + 1)) = wVAll ds := by
  have hk := (List.getElem?_eq_some_iff.mp h)
  have e : ds = ds.take k ++ (d :: ds.drop (k + 1)) := by
    rw [← hk.2, ← List.drop_eq_getElem_cons hk.1, List.take_append_drop]
  have e2 : wVAll ds = wVAll (ds.take k ++ (d :: ds.drop (k + 1))) := congrArg wVAll e
  rw [wVAll_app, wVAll] at e2
  omega
theorem wVAll_rep (d : PyData) : ∀ k : Nat, wVAll (List.replicate k d) = k * (wV d + 2)
  | 0 => by rw [List.replicate_zero, wVAll]; omega
  | k + 1 => by rw [List.replicate_succ, wVAll, wVAll_rep d k, Nat.succ_mul]; omega
theorem wVAll_rev : ∀ ds : List PyData, wVAll ds.reverse = wVAll ds
  | [] => rfl
  | d :: ds => by
    rw [List.reverse_cons, wVAll_app, wVAll_rev ds, wVAll, wVAll, wVAll]; omega
theorem okVAll_rep {d : PyData} (h : okV d = true) (k : Nat) : okVAll (List.replicate k d) = true := okVAll_of fun x hx => by rw [(List.mem_replicate.mp hx).2]; exact h
theorem depthAll_rep {n : Nat} {d : PyData} (h : d.depth ≤ n) (k : Nat) : PyData.depthAll (List.replicate k d) ≤ n := depthAll_le fun x hx => by rw [(List.mem_replicate.mp hx).2]; exact h
theorem okVAll_rev {ds : List PyData} (h : okVAll ds = true) : okVAll ds.reverse = true := okVAll_of fun x hx => okVAll_mem h (List.mem_reverse.mp hx)
theorem depthAll_rev {n : Nat} {ds : List PyData} (h : PyData.depthAll ds ≤ n) : PyData.depthAll ds.reverse ≤ n := depthAll_le fun x hx => Nat.le_trans (depthAll_mem (List.mem_reverse.mp hx)) h
def sp_bentT (K : PySem.W.Frag) (M : Nat) : Sp := fun vs H Q _ => ∃ (p c : Addr) (n : Nat) (v : V) (d : PyData) (b e : Nat) (S : List Addr), vs = [.ref p, v] ∧ Pen H p c n ∧ n + 100 * (e + 1) ≤ 600000 ∧ p ∈ S ∧ Hid S H ∧ Dv K (OffS S H) v d ∧ Sz b e d ∧ e ≤ M ∧ M ≤ 20 ∧ b ≤ 500000 ∧
  ∀ (v' : V) (d' : PyData) H', Dv K (OffS S H') v' d' → Sz (18 * b + 2000) (e + 1) d' → Drew p c H H' (n + 100 * (e + 1)) → Q v' H'
def sp_bentT_sub (K : PySem.W.Frag) : Nat → Sp
  | 0 => fun _ _ _ _ => False
  | m + 1 => sp_bentT K m
/-! data without lists, apart from the pen -/
mutual
def noLst : PyData → Bool
  | .list _ => false
  | .tuple xs => noLstAll xs
  | .dict _ => false
  | _ => true
def noLstAll : List PyData → Bool
  | [] => true
  | x :: xs => noLst x && noLstAll xs
end
theorem sqT_off {K : PySem.W.Frag} {H : Hp} {a p : Addr} {xs : List V} {ys : List V} (h : SqT K H a xs) (hp : H p = some (.lst ys)) : SqT K (OffS [p] H) a xs := by
  rcases h with (h | ⟨o, h⟩) | h
  · have n : a ∉ [p] := fun z => by rw [List.mem_singleton.mp z, hp] at h; cases h
    exact .inl (.inl (by rw [off_ne n]; exact h))
  · have n : a ∉ [p] := fun z => by rw [List.mem_singleton.mp z, hp] at h; cases h
    exact .inl (.inr ⟨o, by rw [off_ne n]; exact h⟩)
  · exact .inr h
mutual
theorem dp_off {K : PySem.W.Frag} {H : Hp} {p : Addr} {ys : List V} (hp : H p = some (.lst ys)) : ∀ {v : V} {d : PyData}, Dp K H v d → noLst d = true → Dv K (OffS [p] H) v d
  | _, _, .non, _ => .non
  | _, _, .bl b, _ => .bl b
  | _, _, .int i, _ => .int i
  | _, _, .str x, _ => .str x
  | _, _, .lst h a, n => by simp [noLst] at n
  | _, _, .tup h a, n => .tup (sqT_off h hp) (dpAll_off hp a (by simpa [noLst] using n))
theorem dpAll_off {K : PySem.W.Frag} {H : Hp} {p : Addr} {ys : List V} (hp : H p = some (.lst ys)) : ∀ {vs : List V} {ds : List PyData}, DpAll K H vs ds → noLstAll ds = true → DvAll K (OffS [p] H) vs ds
  | _, _, .nil, _ => .nil
  | _, _, .cons h t, n => by
    rw [noLstAll, Bool.and_eq_true] at n
    exact .cons (dp_off hp h n.1) (dpAll_off hp t n.2)
end
end Fld
/-! fields, lists of fields, settings, entries: as values and by plain data; what stays while only tuples must stand -/
namespace Fld
open PySem PySem.Spec PyProof.Rows L2
def IsTupO (u : HO) : Prop := (∃ xs, u = .tup xs) ∨ ∃ o xs, u = .frz o (.tup xs)
/-- all tuples stand -/
def TS (H H' : Hp) : Prop := ∀ a u, IsTupO u → H a = some u → H' a = some u
theorem TS.refl (H : Hp) : TS H H := fun _ _ _ e => e
theorem TS.trans {H H1 H2 : Hp} (a : TS H H1) (b : TS H1 H2) : TS H H2 := fun c u t e => b c u t (a c u t e)
theorem TS.of {H H1 : Hp} (s : Same H H1) : TS H H1 := fun c u _ e => s c u e
theorem nt_lst {xs : List V} : ¬ IsTupO (.lst xs) := by
  rintro (⟨_, e⟩ | ⟨_, _, e⟩) <;> cases e
theorem nt_dK {kvs : List (Key × V)} : ¬ IsTupO (.dK kvs) := by
  rintro (⟨_, e⟩ | ⟨_, _, e⟩) <;> cases e
theorem nt_fD {o : Obj} {kvs : List (Key × V)} : ¬ IsTupO (.frz o (.dK kvs)) := by
  rintro (⟨_, e⟩ | ⟨_, _, e⟩) <;> cases e
theorem nt_ins {C d : Addr} {fs : List (Str × V)} : ¬ IsTupO (.ins C d fs) := by
  rintro (⟨_, e⟩ | ⟨_, _, e⟩) <;> cases e
theorem TS.at {H : Hp} {q : Addr} {o o0 : HO} (h : H q = some o0) (n : ¬ IsTupO o0) : TS H (upd H q o) := fun a u t e => by
  by_cases z : a = q
  · subst z; rw [h] at e; cases e; exact absurd t n
  · rw [upd_ne z]; exact e
theorem TS.new {H : Hp} {q : Addr} {o : HO} (h : H q = none) : TS H (upd H q o) := .of (Same.new h)
theorem TS.but {p : Addr} {H H' : Hp} {o0 : HO} (b : But p H H') (h : H p = some o0) (n : ¬ IsTupO o0) : TS H H' := fun a u t e => by
  by_cases z : a = p
  · subst z; rw [h] at e; cases e; exact absurd t n
  · exact b a u z e
theorem TS.drew {p c : Addr} {H H' : Hp} {n m : Nat} (hp : Pen H p c n) (d : Drew p c H H' m) : TS H H' := by
  obtain ⟨⟨xs, e⟩, _⟩ := hp.some
  exact TS.but d.but e nt_lst
theorem TS.tup {K : PySem.W.Frag} {H H' : Hp} {a : Addr} {xs : List V} (t : TS H H') (h : SqT K H a xs) : SqT K H' a xs := by
  rcases h with (h | ⟨o, h⟩) | h
  · exact .inl (.inl (t _ _ (.inl ⟨_, rfl⟩) h))
  · exact .inl (.inr ⟨o, t _ _ (.inr ⟨_, _, rfl⟩) h⟩)
  · exact .inr h
/-! ### fields -/
abbrev Fd := Str × Str
structure FdOk (f : Fd) : Prop where
  n : txt (.str f.1) 1 20 = true
  v : txt (.str f.2) 0 40 = true
def fdat (f : Fd) : PyData := .tuple [.str f.1, .str f.2]
def FdV (K : PySem.W.Frag) (H : Hp) (v : V) (f : Fd) : Prop := ∃ a, v = .ref a ∧ SqT K H a [.str f.1, .str f.2]
abbrev FdsV (K : PySem.W.Frag) (H : Hp) (xs : List V) (F : List Fd) : Prop := Paired (FdV K H) xs F
theorem FdV.ts {K : PySem.W.Frag} {H H' : Hp} {v : V} {f : Fd} (h : FdV K H v f) (t : TS H H') : FdV K H' v f := let ⟨a, e, s⟩ := h; ⟨a, e, t.tup s⟩
theorem pmap {α β : Type} {R S : α → β → Prop} (f : ∀ x y, R x y → S x y) : ∀ {xs : List α} {ys : List β}, Paired R xs ys → Paired S xs ys
  | _, _, .nil => .nil
  | _, _, .cons h t => .cons (f _ _ h) (pmap f t)
theorem FdsV.ts {K : PySem.W.Frag} {H H' : Hp} {xs : List V} {F : List Fd} (h : FdsV K H xs F) (t : TS H H') : FdsV K H' xs F := pmap (fun _ _ z => z.ts t) h
theorem FdV.dp {K : PySem.W.Frag} {H : Hp} {v : V} {f : Fd} (h : FdV K H v f) : Dp K H v (fdat f) := by
  obtain ⟨a, rfl, s⟩ := h
  exact .tup s (.cons (.str _) (.cons (.str _) .nil))
theorem FdsV.dp {K : PySem.W.Frag} {H : Hp} : ∀ {xs : List V} {F : List Fd}, FdsV K H xs F → DpAll K H xs (F.map fdat)
  | _, _, .nil => .nil
  | _, _, .cons h t => .cons h.dp (FdsV.dp t)
theorem p_at {α β : Type} {R : α → β → Prop} : ∀ {xs : List α} {ys : List β} {i : Nat} {x : α}, Paired R xs ys → xs[i]? = some x → ∃ y, ys[i]? = some y ∧ R x y
  | _, _, _, _, .nil, e => by simp at e
  | _, _, 0, _, .cons h _, e => by simp at e; subst e; exact ⟨_, rfl, h⟩
  | _, _, i + 1, x, .cons _ t, e => by
    obtain ⟨y, h1, h2⟩ := p_at (i := i) (x := x) t (by simpa using e)
    exact ⟨y, by simpa using h1, h2⟩
theorem p_at' {α β : Type} {R : α → β → Prop} : ∀ {xs : List α} {ys : List β} {i : Nat} {y : β}, Paired R xs ys → ys[i]? = some y → ∃ x, xs[i]? = some x ∧ R x y
  | _, _, _, _, .nil, e => by simp at e
  | _, _, 0, _, .cons h _, e => by simp at e; subst e; exact ⟨_, rfl, h⟩
  | _, _, i + 1, x, .cons _ t, e => by
    obtain ⟨y, h1, h2⟩ := p_at' (i := i) (y := x) t (by simpa using e)
    exact ⟨y, by simpa using h1, h2⟩
theorem p_app {α β : Type} {R : α → β → Prop} : ∀ {xs zs : List α} {ys us : List β}, Paired R xs ys → Paired R zs us → Paired R (xs ++ zs) (ys ++ us)
  | _, _, _, _, .nil, s => s
  | _, _, _, _, .cons r t, s => .cons r (p_app t s)
theorem p_rev {α β : Type} {R : α → β → Prop} : ∀ {xs : List α} {ys : List β}, Paired R xs ys → Paired R xs.reverse ys.reverse
  | _, _, .nil => .nil
  | _, _, .cons r t => by
    rw [List.reverse_cons, List.reverse_cons]
    exact p_app (p_rev t) (.cons r .nil)
theorem p_len {α β : Type} {R : α → β → Prop} : ∀ {xs : List α} {ys : List β}, Paired R xs ys → xs.length = ys.length
  | _, _, .nil => rfl
  | _, _, .cons _ t => by rw [List.length_cons, List.length_cons, p_len t]
theorem dField_fd {f : Fd} (h : FdOk f) : dField (fdat f) = true := by
  have h1 : dTxt (.str f.1) 1 20 = true := h.n
  have h2 : dTxt (.str f.2) 0 40 = true := h.v
  show (dTxt (.str f.1) 1 20 && dTxt (.str f.2) 0 40) = true
  rw [h1, h2]; rfl
theorem sz_fd {f : Fd} (h : FdOk f) : Sz 700 1 (fdat f) := by
  have zx := sz_txt (b := 20) h.n
  have zy := sz_txt (b := 40) h.v
  refine sz_tup' (k := 0) ?_ ?_ ?_
  · rw [okVAll, okVAll, okVAll, zx.ok, zy.ok]; rfl
  · have := zx.w; have := zy.w
    rw [wVAll, wVAll, wVAll]; omega
  · exact depthAll_le fun d hd => by
      simp only [List.mem_cons, List.not_mem_nil, or_false] at hd
      rcases hd with rfl | rfl
      · exact zx.dp
      · exact zy.dp
theorem sz_many {b k : Nat} : ∀ {ds : List PyData}, (∀ d ∈ ds, Sz b k d) → okVAll ds = true ∧ wVAll ds ≤ (b + 2) * ds.length ∧ PyData.depthAll ds ≤ k
  | [], _ => ⟨by rw [okVAll], by rw [wVAll]; omega, by rw [PyData.depthAll]; omega⟩
  | d :: ds, h => by
    obtain ⟨h1, h2, h3⟩ := sz_many (ds := ds) fun e he => h e (List.mem_cons_of_mem _ he)
    have z := h d (List.mem_cons_self ..)
    refine ⟨by rw [okVAll, z.ok, h1]; rfl, ?_, ?_⟩
    · rw [wVAll, List.length_cons, Nat.mul_add]; have := z.w; omega
    · rw [PyData.depthAll]; have := z.dp; omega
theorem sz_fds {F : List Fd} (h : ∀ f ∈ F, FdOk f) (hl : F.length ≤ 40) : Sz 30000 2 (.tuple (F.map fdat)) := by
  obtain ⟨h1, h2, h3⟩ := sz_many (b := 700) (k := 1) (ds := F.map fdat) fun d hd => by
    obtain ⟨f, hf, rfl⟩ := List.mem_map.mp hd
    exact sz_fd (h f hf)
  rw [List.length_map] at h2
  have : (700 + 2) * F.length ≤ (700 + 2) * 40 := Nat.mul_le_mul_left _ hl
  exact sz_tup' h1 (by omega) h3
/-! ### settings -/
def SetV (K : PySem.W.Frag) (H : Hp) (v : V) (F : List Fd) (r w : Nat) : Prop := ∃ (a t : Addr) (xs : List V), v = .ref a ∧ SqT K H a [.ref t, .int (r : Nat), .int (w : Nat)] ∧ SqT K H t xs ∧ FdsV K H xs F
structure SetOk (F : List Fd) (r w : Nat) : Prop where
  len : F.length ≤ 12
  fd : ∀ f ∈ F, FdOk f
  r : r ≤ 120
  w : w ≤ 4
def sdat (F : List Fd) (r w : Nat) : PyData := .tuple [.tuple (F.map fdat), .int (r : Nat), .int (w : Nat)]
theorem SetV.ts {K : PySem.W.Frag} {H H' : Hp} {v : V} {F : List Fd} {r w : Nat} (h : SetV K H v F r w) (t : TS H H') : SetV K H' v F r w := let ⟨a, b, xs, e, s1, s2, s3⟩ := h; ⟨a, b, xs, e, t.tup s1, t.tup s2, s3.ts t⟩
theorem SetV.dp {K : PySem.W.Frag} {H : Hp} {v : V} {F : List Fd} {r w : Nat} (h : SetV K H v F r w) : Dp K H v (sdat F r w) := by
  obtain ⟨a, b, xs, rfl, s1, s2, s3⟩ := h
  exact .tup s1 (.cons (.tup s2 s3.dp) (.cons (.int _) (.cons (.int _) .nil)))
theorem nat_btw' {k a b : Nat} (h1 : a ≤ k) (h2 : k ≤ b) : dBtw (.int (k : Nat)) (a : Nat) (b : Nat) = true := by
  show (decide (((a : Nat) : Int) ≤ (k : Nat)) && decide (((k : Nat) : Int) ≤ (b : Nat))) = true
  rw [decide_eq_true (by omega), decide_eq_true (by omega)]; rfl
theorem dSetting_ok {F : List Fd} {r w : Nat} (h : SetOk F r w) : dSetting (sdat F r w) = true := by
  show (dFields 12 (.tuple (F.map fdat)) && dBtw (.int (r : Nat)) 0 120 && dBtw (.int (w : Nat)) 0 4) = true
  have e1 : dFields 12 (.tuple (F.map fdat)) = true := by
    show (decide ((F.map fdat).length ≤ 12) && (F.map fdat).all dField) = true
    rw [List.length_map, decide_eq_true h.len, Bool.true_and, List.all_eq_true]
    intro d hd
    obtain ⟨f, hf, rfl⟩ := List.mem_map.mp hd
    exact dField_fd (h.fd f hf)
  have e2 : dBtw (.int (r : Nat)) 0 120 = true := nat_btw' (a := 0) (b := 120) (by omega) h.r
  have e3 : dBtw (.int (w : Nat)) 0 4 = true := nat_btw' (a := 0) (b := 4) (by omega) h.w
  rw [e1, e2, e3]; rfl
theorem sz_set {F : List Fd} {r w : Nat} (h : SetOk F r w) : Sz 40000 3 (sdat F r w) := by
  have zf := sz_fds h.fd (by have := h.len; omega)
  have h3 : (200 : Nat) < 2 ^ 1000 := by decide +kernel
  have ir : Sz 1010 0 (.int (r : Nat)) := sz_int (by have := h.r; omega)
  have iw : Sz 1010 0 (.int (w : Nat)) := sz_int (by have := h.w; omega)
  refine sz_tup' (k := 2) ?_ ?_ ?_
  · rw [okVAll, okVAll, okVAll, okVAll, zf.ok, ir.ok, iw.ok]; rfl
  · have := zf.w; have := ir.w; have := iw.w
    rw [wVAll, wVAll, wVAll, wVAll]; omega
  · refine depthAll_le fun d hd => ?_
    simp only [List.mem_cons, List.not_mem_nil, or_false] at hd
    rcases hd with rfl | rfl | rfl
    · exact zf.dp
    · exact Nat.le_trans ir.dp (by decide)
    · exact Nat.le_trans iw.dp (by decide)
/-! ### entries -/
abbrev Ent := List (Nat × Fd)
def nkey (n : Nat) : Key := Sum.inl ((n : Nat) : Int)
theorem nkey_inj {a b : Nat} (h : nkey a = nkey b) : a = b := by
  have := Sum.inl.inj h
  omega
def PrV (K : PySem.W.Frag) (H : Hp) (p : Key × V) (e : Nat × Fd) : Prop := p.1 = nkey e.1 ∧ FdV K H p.2 e.2
theorem PrV.ts {K : PySem.W.Frag} {H H' : Hp} {p : Key × V} {e : Nat × Fd} (h : PrV K H p e) (t : TS H H') : PrV K H' p e := ⟨h.1, h.2.ts t⟩
def EntV (K : PySem.W.Frag) (H : Hp) (D : Addr) (es : Ent) : Prop := ∃ kvs, H D = some (.dK kvs) ∧ Paired (PrV K H) kvs es
def lookE (es : Ent) (n : Nat) : Option Fd := (es.find? fun e => decide (e.1 = n)).map (·.2)
def putE (es : Ent) (n : Nat) (f : Fd) : Ent := if (es.any fun e => decide (e.1 = n)) = true then es.map (fun e => if e.1 = n then (e.1, f) else e) else es ++ [(n, f)]
def dropE (es : Ent) (n : Nat) : Ent := es.filter fun e => decide (e.1 ≠ n)
structure EsOk (m : Nat) (es : Ent) : Prop where
  len : es.length ≤ m
  key : ∀ e ∈ es, e.1 ≤ 40
  fd : ∀ e ∈ es, FdOk e.2
  nd : (es.map (·.1)).Nodup
theorem EntV.ts {K : PySem.W.Frag} {H H' : Hp} {D : Addr} {es : Ent} (h : EntV K H D es) (t : TS H H') (e : ∀ o, H D = some o → H' D = some o) : EntV K H' D es := let ⟨kvs, h1, h2⟩ := h; ⟨kvs, e _ h1, pmap (fun _ _ z => z.ts t) h2⟩
theorem EntV.same {K : PySem.W.Frag} {H H' : Hp} {D : Addr} {es : Ent} (h : EntV K H D es) (s : Same H H') : EntV K H' D es := h.ts (.of s) fun o e => s _ _ e
/-- a value or None -/
def OFd (K : PySem.W.Frag) (H : Hp) (v : V) : Option Fd → Prop
  | none => v = .non
  | some f => FdV K H v f
theorem OFd.ts {K : PySem.W.Frag} {H H' : Hp} {v : V} {o : Option Fd} (h : OFd K H v o) (t : TS H H') : OFd K H' v o := by
  cases o with
  | none => exact h
  | some f => exact FdV.ts h t
theorem look_get {K : PySem.W.Frag} {H : Hp} {n : Nat} : ∀ {kvs : List (Key × V)} {es : Ent}, Paired (PrV K H) kvs es → (valV kvs (nkey n) = none ∧ lookE es n = none) ∨ ∃ v f, valV kvs (nkey n) = some v ∧ lookE es n = some f ∧ FdV K H v f
  | _, _, .nil => .inl ⟨rfl, rfl⟩
  | p :: kvs, e :: es, .cons h t => by
    by_cases c : e.1 = n
    · refine .inr ⟨p.2, e.2, ?_, ?_, h.2⟩
      · exact valV_pos (by rw [h.1, c])
      · unfold lookE; rw [List.find?_cons, decide_eq_true c]; rfl
    · have e1 : valV (p :: kvs) (nkey n) = valV kvs (nkey n) := valV_neg (by rw [h.1]; exact fun z => c (nkey_inj z))
      have e2 : lookE (e :: es) n = lookE es n := by unfold lookE; rw [List.find?_cons, decide_eq_false c]
      rw [e1, e2]
      exact look_get t
theorem any_get {K : PySem.W.Frag} {H : Hp} {n : Nat} : ∀ {kvs : List (Key × V)} {es : Ent}, Paired (PrV K H) kvs es → (kvs.any fun kv => decide (kv.1 = nkey n)) = es.any fun e => decide (e.1 = n)
  | _, _, .nil => rfl
  | p :: kvs, e :: es, .cons h t => by
    rw [List.any_cons, List.any_cons, any_get t]
    congr 1
    exact decide_eq_decide.mpr ⟨fun z => nkey_inj (h.1.symm.trans z), fun z => by rw [h.1, z]⟩
theorem put_get {K : PySem.W.Frag} {H : Hp} {n : Nat} {v : V} {f : Fd} {kvs : List (Key × V)} {es : Ent} (h : Paired (PrV K H) kvs es) (hf : FdV K H v f) : Paired (PrV K H) (putK kvs (nkey n) v) (putE es n f) := by
  have go : ∀ {kvs : List (Key × V)} {es : Ent}, Paired (PrV K H) kvs es → Paired (PrV K H) (kvs.map fun kv => if kv.1 = nkey n then (kv.1, v) else kv) (es.map fun e => if e.1 = n then (e.1, f) else e) := by
    intro kvs es h
    induction h with
    | nil => exact .nil
    | @cons p e _ _ h t ih =>
      rw [List.map_cons, List.map_cons]
      refine .cons ?_ ih
      by_cases c : e.1 = n
      · rw [if_pos c, if_pos (by rw [h.1, c])]; exact ⟨h.1, hf⟩
      · rw [if_neg c, if_neg (by rw [h.1]; exact fun z => c (nkey_inj z))]; exact h
  unfold putK putE
  rw [any_get h]
  by_cases c : (es.any fun e => decide (e.1 = n)) = true
  · rw [if_pos c, if_pos c]; exact go h
  · rw [if_neg c, if_neg c]; exact p_app h (.cons ⟨rfl, hf⟩ .nil)
theorem drop_get {K : PySem.W.Frag} {H : Hp} {n : Nat} : ∀ {kvs : List (Key × V)} {es : Ent}, Paired (PrV K H) kvs es → Paired (PrV K H) (dropK kvs (nkey n)) (dropE es n)
  | _, _, .nil => .nil
  | p :: kvs, e :: es, .cons h t => by
    unfold dropK dropE
    rw [List.filter_cons, List.filter_cons]
    by_cases c : e.1 = n
    · rw [if_neg (by simp [h.1, c]), if_neg (by simp [c])]; exact drop_get t
    · rw [if_pos (by simp only [decide_eq_true_eq]; rw [h.1]; exact fun z => c (nkey_inj z)), if_pos (by simp [c])]; exact .cons h (drop_get t)
theorem len_putE (es : Ent) (n : Nat) (f : Fd) : (putE es n f).length ≤ es.length + 1 := by
  unfold putE
  split
  · rw [List.length_map]; omega
  · simp
theorem keys_map (es : Ent) (n : Nat) (f : Fd) : (es.map fun e => if e.1 = n then (e.1, f) else e).map (·.1) = es.map (·.1) := by
  rw [List.map_map]
  apply List.map_congr_left
  intro e _
  show (if e.1 = n then (e.1, f) else e).1 = e.1
  split <;> rfl
theorem EsOk.put {m n : Nat} {es : Ent} {f : Fd} (h : EsOk m es) (hn : n ≤ 40) (hf : FdOk f) : EsOk (m + 1) (putE es n f) := by
  refine ⟨by have := len_putE es n f; have := h.len; omega, ?_, ?_, ?_⟩
  · intro e he
    unfold putE at he
    split at he
    · obtain ⟨x, hx, rfl⟩ := List.mem_map.mp he
      have := h.key x hx
      split <;> exact this
    · rcases List.mem_append.mp he with z | z
      · exact h.key e z
      · rw [List.mem_singleton.mp z]; exact hn
  · intro e he
    unfold putE at he
    split at he
    · obtain ⟨x, hx, rfl⟩ := List.mem_map.mp he
      have := h.fd x hx
      split
      · exact hf
      · exact this
    · rcases List.mem_append.mp he with z | z
      · exact h.fd e z
      · rw [List.mem_singleton.mp z]; exact hf
  · unfold putE
    split
    · rw [keys_map]; exact h.nd
    · rename_i c
      rw [List.map_append, List.nodup_append]
      refine ⟨h.nd, by simp, ?_⟩
      rintro a ha b hb rfl
      have : a = n := by simpa using hb
      subst this
      obtain ⟨e, he, rfl⟩ := List.mem_map.mp ha
      exact c (List.any_eq_true.mpr ⟨e, he, decide_eq_true rfl⟩)
theorem EsOk.drop {m n : Nat} {es : Ent} (h : EsOk m es) : EsOk m (dropE es n) :=
  ⟨Nat.le_trans (List.length_filter_le _ _) h.len, fun e he => h.key e (List.mem_filter.mp he).1, fun e he => h.fd e (List.mem_filter.mp he).1, (List.Sublist.map _ List.filter_sublist).nodup h.nd⟩
theorem EsOk.mono {m m' : Nat} {es : Ent} (h : EsOk m es) (l : m ≤ m') : EsOk m' es := ⟨Nat.le_trans h.len l, h.key, h.fd, h.nd⟩
theorem look_put (es : Ent) (n : Nat) (f : Fd) : lookE (putE es n f) n = some f := by
  unfold putE
  split
  · rename_i c
    induction es with
    | nil => cases c
    | cons e es ih =>
      rw [List.map_cons]
      by_cases d : e.1 = n
      · unfold lookE; rw [if_pos d, List.find?_cons, decide_eq_true d]; rfl
      · rw [List.any_cons, decide_eq_false d, Bool.false_or] at c
        have := ih c
        unfold lookE at this ⊢
        rw [if_neg d, List.find?_cons, decide_eq_false d]
        exact this
  · rename_i c
    induction es with
    | nil => unfold lookE; rw [List.nil_append, List.find?_cons, decide_eq_true rfl]; rfl
    | cons e es ih =>
      rw [List.any_cons, Bool.or_eq_true, not_or] at c
      have d : ¬ e.1 = n := fun z => c.1 (decide_eq_true z)
      have := ih c.2
      unfold lookE at this ⊢
      rw [List.cons_append, List.find?_cons, decide_eq_false d]
      exact this
theorem look_some_iff {es : Ent} (nd : (es.map (·.1)).Nodup) {n : Nat} {f : Fd} : lookE es n = some f ↔ (n, f) ∈ es := by
  induction es with
  | nil => simp [lookE]
  | cons e es ih =>
    rw [List.map_cons, List.nodup_cons] at nd
    have ih := ih nd.2
    unfold lookE at ih ⊢
    rw [List.find?_cons]
    by_cases c : e.1 = n
    · rw [decide_eq_true c]
      constructor
      · intro h
        have h2 : e.2 = f := Option.some.inj h
        rw [← c, ← h2]; exact List.mem_cons_self ..
      · intro h
        rcases List.mem_cons.mp h with h | h
        · rw [← h]; rfl
        · exact absurd (List.mem_map.mpr ⟨_, h, rfl⟩) (by rw [c] at nd; exact nd.1)
    · rw [decide_eq_false c]
      refine ih.trans ⟨fun h => List.mem_cons_of_mem _ h, fun h => ?_⟩
      rcases List.mem_cons.mp h with h | h
      · exact absurd (by rw [← h]) c
      · exact h
theorem nd_rev {l : List Nat} (h : l.Nodup) : l.reverse.Nodup := List.pairwise_reverse.mpr (List.Pairwise.imp (fun h => Ne.symm h) h)
theorem look_rev {es : Ent} (nd : (es.map (·.1)).Nodup) (n : Nat) : lookE es.reverse n = lookE es n := by
  have nd2 : (es.reverse.map (·.1)).Nodup := by rw [List.map_reverse]; exact nd_rev nd
  cases h : lookE es n with
  | some f =>
    exact (look_some_iff nd2).mpr (List.mem_reverse.mpr ((look_some_iff nd).mp h))
  | none =>
    cases h2 : lookE es.reverse n with
    | none => rfl
    | some f =>
      have := (look_some_iff nd).mpr (List.mem_reverse.mp ((look_some_iff nd2).mp h2))
      rw [h] at this; cases this
theorem EsOk.rev {m : Nat} {es : Ent} (h : EsOk m es) : EsOk m es.reverse :=
  ⟨by rw [List.length_reverse]; exact h.len, fun e he => h.key e (List.mem_reverse.mp he), fun e he => h.fd e (List.mem_reverse.mp he), by rw [List.map_reverse]; exact nd_rev h.nd⟩
/-- a dict of pairs whose keys differ -/
theorem merge_app : ∀ (more acc : List (Key × V)), ((acc ++ more).map (·.1)).Nodup → mergeK acc more = acc ++ more
  | [], acc, _ => by rw [List.append_nil]; rfl
  | kv :: more, acc, h => by
    have h1 : valV acc kv.1 = none := by
      rw [List.map_append, List.map_cons, List.nodup_append] at h
      unfold valV
      rw [Option.map_eq_none_iff, List.find?_eq_none]
      intro x hx z
      exact h.2.2 x.1 (List.mem_map.mpr ⟨x, hx, rfl⟩) kv.1 (List.mem_cons_self ..) (of_decide_eq_true z)
    show mergeK (putK acc kv.1 kv.2) more = _
    rw [putK_new _ h1]
    have := merge_app more (acc ++ [(kv.1, kv.2)]) (by rw [List.append_assoc]; exact h)
    rw [this, List.append_assoc]
    rfl
theorem keys_nd {K : PySem.W.Frag} {H : Hp} {kvs : List (Key × V)} {es : Ent} (h : Paired (PrV K H) kvs es) (nd : (es.map (·.1)).Nodup) : (kvs.map (·.1)).Nodup := by
  have e : kvs.map (·.1) = (es.map (·.1)).map nkey := by
    induction h with
    | nil => rfl
    | cons h t ih =>
      rw [List.map_cons, List.nodup_cons] at nd
      rw [List.map_cons, List.map_cons, List.map_cons, ih nd.2, h.1]
  rw [e]
  clear e h
  induction es with
  | nil => exact List.nodup_nil
  | cons x xs ih =>
    rw [List.map_cons, List.nodup_cons] at nd
    rw [List.map_cons, List.map_cons, List.nodup_cons]
    refine ⟨fun z => ?_, ih nd.2⟩
    obtain ⟨y, hy, e⟩ := List.mem_map.mp z
    exact nd.1 (nkey_inj e ▸ hy)
/-! ### what a block says -/
def said1 (F : List Fd) (es : Ent) : Ln → Option Fd
  | .fix1 n => F[n]?
  | .fix2 n x => (F[n]?).map fun f => (f.1, x)
  | .ent1 n => lookE es n
  | .ent2 n x => (lookE es n).map fun f => (f.1, x)
  | .out y x => some (y, x)
def saidL (F : List Fd) (es : Ent) : List Ln → Option (List Fd)
  | [] => some []
  | l :: ls => match said1 F es l with
    | none => none
    | some f => (saidL F es ls).map (f :: ·)
theorem said1_congr {F : List Fd} {es es' : Ent} (h : ∀ n, lookE es' n = lookE es n) (l : Ln) : said1 F es' l = said1 F es l := by
  cases l with
  | fix1 n => rfl
  | fix2 n x => rfl
  | ent1 n => exact h n
  | ent2 n x => show (lookE es' n).map _ = _; rw [h n]; rfl
  | out y x => rfl
theorem saidL_congr {F : List Fd} {es es' : Ent} (h : ∀ n, lookE es' n = lookE es n) : ∀ ls, saidL F es' ls = saidL F es ls
  | [] => rfl
  | l :: ls => by unfold saidL; rw [said1_congr h, saidL_congr h ls]
def resD : Option (List Fd) → PyData
  | none => .none
  | some fs => .tuple (fs.map fdat)
theorem saidL_len {F : List Fd} {es : Ent} : ∀ {ls : List Ln} {fs : List Fd}, saidL F es ls = some fs → fs.length = ls.length
  | [], fs, h => by cases h; rfl
  | l :: ls, fs, h => by
    unfold saidL at h
    cases e : said1 F es l with
    | none => rw [e] at h; cases h
    | some f =>
      rw [e] at h
      cases e2 : saidL F es ls with
      | none => simp only [e2] at h; cases h
      | some gs =>
        simp only [e2] at h
        cases h
        rw [List.length_cons, List.length_cons, saidL_len e2]
/-- the values of all lines: one is None, or all are fields -/
theorem said_all {K : PySem.W.Frag} {H : Hp} {F : List Fd} {es : Ent} : ∀ {ls : List Ln} {vs : List V}, Paired (fun v l => OFd K H v (said1 F es l)) vs ls →
    (saidL F es ls = none ∧ (∃ v ∈ vs, v = .non)) ∨ ∃ fs, saidL F es ls = some fs ∧ FdsV K H vs fs
  | _, _, .nil => .inr ⟨[], rfl, .nil⟩
  | l :: ls, v :: vs, .cons h t => by
    unfold saidL
    cases e : said1 F es l with
    | none => rw [e] at h; exact .inl ⟨rfl, v, List.mem_cons_self .., h⟩
    | some f =>
      rw [e] at h
      rcases said_all t with ⟨e2, w, hw, ew⟩ | ⟨fs, e2, hf⟩
      · refine .inl ⟨by simp only [e2]; rfl, w, List.mem_cons_of_mem _ hw, ew⟩
      · exact .inr ⟨f :: fs, by simp only [e2]; rfl, .cons h hf⟩
theorem LnV.ts {K : PySem.W.Frag} {H H' : Hp} {v : V} {l : Ln} (h : LnV K H v l) (t : TS H H') : LnV K H' v l := let ⟨a, e, s⟩ := h; ⟨a, e, t.tup s⟩
theorem LnsV.ts {K : PySem.W.Frag} {H H' : Hp} (t : TS H H') : ∀ {xs : List V} {ls : List Ln}, LnsV K H xs ls → LnsV K H' xs ls
  | _, _, .nil => .nil
  | _, _, .cons h s => .cons (h.ts t) (LnsV.ts t s)
theorem BlkV.ts {K : PySem.W.Frag} {H H' : Hp} {v : V} {b : Blk} (h : BlkV K H v b) (t : TS H H') : BlkV K H' v b := let ⟨a, u, xs, e, s1, s2, s3⟩ := h; ⟨a, u, xs, e, t.tup s1, t.tup s2, LnsV.ts t s3⟩
/-! ### None in a list of None and tuples -/
def NoT (K : PySem.W.Frag) (H : Hp) (z : V) : Prop := z = .non ∨ ∃ a xs, z = .ref a ∧ SqT K H a xs
theorem noT_any {K : PySem.W.Frag} {H : Hp} : ∀ {xs : List V} {us : List Value}, Vals xs us → (∀ z ∈ xs, NoT K H z) → us.any PySem.Numpy.isNone = xs.any isNon
  | _, _, .nil, _ => rfl
  | x :: xs, u :: us, .cons r t, f => by
    rw [List.any_cons, List.any_cons, noT_any t fun z hz => f z (List.mem_cons_of_mem _ hz)]
    congr 1
    rcases f x (List.mem_cons_self ..) with rfl | ⟨a, ys, rfl, _⟩
    · cases r; rfl
    · cases r; rfl
def rNoneInT (K : PySem.W.Frag) : R2 := fun x y H Q => ∃ p xs, x = .non ∧ y = .ref p ∧ SqL K H p xs ∧ (∀ z ∈ xs, NoT K H z) ∧ Q (.bl (xs.any isNon)) H
theorem noT_mem {X : Cx} {A : Around} {pins : List (Addr × Obj)} {σ : L2.St} {H : Hp} {s : Shared} (I : Inv X pins σ H s) (hu : A.units < cLine) : ∀ {xs : List V} {us : List Value}, Vals xs us → (∀ z ∈ xs, NoT X.K H z) → ∀ u ∈ us, SeqAt.EqAt A s u .none (PySem.Numpy.isNone u)
  | _, _, .nil, _ => fun u hu' => nomatch hu'
  | y :: xs, u :: us, .cons r t, f => fun u' hu' => by
    rcases List.mem_cons.mp hu' with e | hu'
    · subst e
      rcases f y (List.mem_cons_self ..) with rfl | ⟨a, ys, rfl, h⟩
      · cases r; exact SeqAt.EqAt.same _
      · cases r
        obtain ⟨its, rv, pl, _⟩ := I.tuple h
        exact SeqAt.EqAt.tuple_none pl hu
    · exact noT_mem I hu t (fun z hz => f z (List.mem_cons_of_mem _ hz)) u' hu'
theorem op_noneInT {X : Cx} (hu : X.A.units + 64 < cLine) : OpR X (compareOp .In) (rNoneInT X.K) := by
  intro pins s σ H x y v u Q I rx ry h
  obtain ⟨p, xs, rfl, rfl, hq, f, q⟩ := h
  cases rx
  cases ry
  obtain ⟨its, rv, hl, _⟩ := I.list hq
  have hu1 : X.A.in1.units < cLine := by show X.A.units + 1 < cLine; omega
  refine SeqAt.in_listAt PySem.Numpy.isNone hl.isList (fun z hz => noT_mem I hu1 rv f z (by simpa using hz)) ⟨.bl _, H, I, rfl, ?_⟩
  rw [show its.toArray.any PySem.Numpy.isNone = its.any PySem.Numpy.isNone by simp, noT_any rv f]
  exact q
end Fld
namespace Fld
open PySem PySem.Spec PyProof.Rows L2
def sp_are_entries (K : PySem.W.Frag) : Sp := fun vs H Q _ => ∃ (D : Addr) (es : Ent), vs = [.ref D] ∧ EntV K H D es ∧ EsOk 24 es ∧ ∀ H', Same H H' → Q (.bl true) H'
def sp_check_entries (K : PySem.W.Frag) : Sp := fun vs H Q _ => ∃ (D : Addr) (es : Ent), vs = [.ref D] ∧ EntV K H D es ∧ EsOk 24 es ∧ ∀ H', Same H H' → Q .non H'
def sp_check_setting (K : PySem.W.Frag) : Sp := fun vs H Q _ => ∃ (v : V) (F : List Fd) (r w : Nat), vs = [v] ∧ SetV K H v F r w ∧ SetOk F r w ∧ ∀ H', Same H H' → Q .non H'
/-- fixed fields and entries -/
structure TabV (K : PySem.W.Frag) (H : Hp) (t D : Addr) (F : List Fd) (es : Ent) : Prop where
  fx : ∃ xs, SqT K H t xs ∧ FdsV K H xs F
  en : EntV K H D es
theorem TabV.ts {K : PySem.W.Frag} {H H' : Hp} {t D : Addr} {F : List Fd} {es : Ent} (h : TabV K H t D F es) (s : TS H H') (e : ∀ o, H D = some o → H' D = some o) : TabV K H' t D F es :=
  ⟨let ⟨xs, a, b⟩ := h.fx; ⟨xs, s.tup a, b.ts s⟩, h.en.ts s e⟩
theorem TabV.same {K : PySem.W.Frag} {H H' : Hp} {t D : Addr} {F : List Fd} {es : Ent} (h : TabV K H t D F es) (s : Same H H') : TabV K H' t D F es := h.ts (.of s) fun o e => s _ _ e
def sp_referred (K : PySem.W.Frag) : Sp := fun vs H Q _ => ∃ (t D : Addr) (F : List Fd) (es : Ent) (k : Str) (n : Nat), vs = [.ref t, .ref D, .str k, .int n] ∧ TabV K H t D F es ∧
  ((k = "fixed" ∧ ∀ v, OFd K H v (F[n]?) → Q v H) ∨ (k = "entry" ∧ ∀ v, OFd K H v (lookE es n) → Q v H))
def sp_said_field (K : PySem.W.Frag) : Sp := fun vs H Q _ => ∃ (t D : Addr) (F : List Fd) (es : Ent) (v : V) (l : Ln), vs = [.ref t, .ref D, v] ∧ TabV K H t D F es ∧ LnV K H v l ∧ ∀ r H', Same H H' → OFd K H' r (said1 F es l) → Q r H'
def sp_said_fields (K : PySem.W.Frag) : Sp := fun vs H Q _ => ∃ (t D u : Addr) (F : List Fd) (es : Ent) (ys : List V) (ls : List Ln), vs = [.ref t, .ref D, .ref u] ∧ TabV K H t D F es ∧ SqT K H u ys ∧ LnsV K H ys ls ∧ ls.length ≤ 16 ∧
  ∀ r H', Same H H' → Dp K H' r (resD (saidL F es ls)) → Q r H'
def sp_says (K : PySem.W.Frag) : Sp := fun vs H Q _ => ∃ (sv bv : V) (D : Addr) (F : List Fd) (r w : Nat) (es : Ent) (b : Blk), vs = [sv, .ref D, bv] ∧ SetV K H sv F r w ∧ SetOk F r w ∧ EntV K H D es ∧ EsOk 24 es ∧ BlkV K H bv b ∧ b.Ok ∧
  ∀ rv H', Same H H' → Dp K H' rv (resD (saidL F es b.ls)) → Q rv H'
theorem look_mem {es : Ent} {n : Nat} {f : Fd} (h : lookE es n = some f) : (n, f) ∈ es := by
  unfold lookE at h
  rw [Option.map_eq_some_iff] at h
  obtain ⟨e, h1, h2⟩ := h
  have h3 := List.mem_of_find?_eq_some h1
  have h4 : e.1 = n := by have := List.find?_some h1; simpa using this
  subst h4 h2; exact h3
theorem look_has {es : Ent} {n : Nat} {f : Fd} (h : (n, f) ∈ es) : ∃ g, lookE es n = some g := by
  cases e : lookE es n with
  | some g => exact ⟨g, rfl⟩
  | none =>
    unfold lookE at e
    rw [Option.map_eq_none_iff, List.find?_eq_none] at e
    exact absurd (decide_eq_true rfl) (e _ h)
theorem lim_fd {f : Fd} (h : FdOk f) : Lim (fdat f) := ⟨(sz_fd h).ok, by have := (sz_fd h).w; omega⟩
theorem lim_set {F : List Fd} {r w : Nat} (h : SetOk F r w) : Lim (sdat F r w) := ⟨(sz_set h).ok, by have := (sz_set h).w; omega⟩
end Fld
namespace Fld
open PySem PySem.Spec PyProof.Rows L2
theorem saidL_none {F : List Fd} {es : Ent} {l : Ln} : ∀ {ls : List Ln}, l ∈ ls → said1 F es l = none → saidL F es ls = none
  | k :: ls, h, e => by
    unfold saidL
    rcases List.mem_cons.mp h with rfl | h
    · rw [e]
    · cases said1 F es k with
      | none => rfl
      | some f => simp only [saidL_none h e]; rfl
def SomeFd (K : PySem.W.Frag) (H : Hp) (F : List Fd) (es : Ent) (v : V) (l : Ln) : Prop := ∃ f, said1 F es l = some f ∧ FdV K H v f
theorem SomeFd.ts {K : PySem.W.Frag} {H H' : Hp} {F : List Fd} {es : Ent} {v : V} {l : Ln} (h : SomeFd K H F es v l) (t : TS H H') : SomeFd K H' F es v l := let ⟨f, e, g⟩ := h; ⟨f, e, g.ts t⟩
theorem saidL_some {K : PySem.W.Frag} {H : Hp} {F : List Fd} {es : Ent} : ∀ {ls : List Ln} {vs : List V}, Paired (SomeFd K H F es) vs ls → ∃ fs, saidL F es ls = some fs ∧ FdsV K H vs fs
  | _, _, .nil => ⟨[], rfl, .nil⟩
  | l :: ls, v :: vs, .cons ⟨f, e, h⟩ t => by
    obtain ⟨fs, e2, h2⟩ := saidL_some t
    exact ⟨f :: fs, by unfold saidL; rw [e]; simp only [e2]; rfl, .cons h h2⟩
def sp_near_field (K : PySem.W.Frag) : Sp := fun vs H Q _ => ∃ (p c : Addr) (n : Nat), vs = [.ref p] ∧ Pen H p c n ∧ n ≤ 700000 ∧ ∀ v f H', FdV K H' v f → FdOk f → Drew p c H H' (n + 110) → Q v H'
def sp_draw_setting (K : PySem.W.Frag) : Sp := fun vs H Q _ => ∃ (p c : Addr) (n : Nat), vs = [.ref p] ∧ Pen H p c n ∧ n ≤ 600000 ∧ ∀ v F r w H', SetV K H' v F r w → SetOk F r w → Drew p c H H' (n + 1500) → Q v H'
def sp_law_said (K : PySem.W.Frag) : Sp := fun vs H Q _ => ∃ (t D : Addr) (bv : V) (F : List Fd) (es : Ent) (b : Blk), vs = [.ref t, .ref D, bv] ∧ TabV K H t D F es ∧ BlkV K H bv b ∧ b.ls.length ≤ 16 ∧
  ∀ r H', Same H H' → Dp K H' r (resD (saidL F es b.ls)) → Q r H'
def sp_draw_entries (K : PySem.W.Frag) : Sp := fun vs H Q _ => ∃ (p c : Addr) (n : Nat), vs = [.ref p] ∧ Pen H p c n ∧ n ≤ 600000 ∧ ∀ D es H', H D = none → EntV K H' D es → EsOk 24 es → (∀ e ∈ es, e.1 ≤ 39) → Drew p c H H' (n + 4000) → Q (.ref D) H'
def sp_draw_lines (K : PySem.W.Frag) : Sp := fun vs H Q _ => ∃ (p c t D : Addr) (n req : Nat) (F : List Fd) (es : Ent), vs = [.ref p, .ref t, .ref D, .int req] ∧ Pen H p c n ∧ n ≤ 600000 ∧ TabV K H t D F es ∧ F.length ≤ 12 ∧ EsOk 24 es ∧ req ≤ 41 ∧
  ∀ u ys ls H', SqT K H' u ys → LnsV K H' ys ls → (∀ l ∈ ls, l.Ok req) → ls.length ≤ 16 → Drew p c H H' (n + 4000) → Q (.ref u) H'
def nearNames : List Str := ["a", "ab", "path", ":method", "x"]
def nearVals : List Str := ["", "1", "get", "x=1", "on"]
theorem near_ok : (nearNames.all fun z => txt (.str z) 1 20) = true ∧ (nearVals.all fun z => txt (.str z) 0 40) = true := by constructor <;> decide +kernel
end Fld
namespace Fld
open PySem PySem.Spec PyProof.Rows L2
theorem keys_inl {K : PySem.W.Frag} {H : Hp} : ∀ {kvs : List (Key × V)} {es : Ent}, Paired (PrV K H) kvs es → kvs.map (·.1) = (es.map fun e => ((e.1 : Nat) : Int)).map Sum.inl
  | _, _, .nil => rfl
  | _, _, .cons h t => by rw [List.map_cons, List.map_cons, List.map_cons, keys_inl t, h.1]; rfl
theorem keys_kV {K : PySem.W.Frag} {H : Hp} : ∀ {kvs : List (Key × V)} {es : Ent}, Paired (PrV K H) kvs es → (kvs.map fun kv => kV kv.1) = (es.map fun e => ((e.1 : Nat) : Int)).map V.int
  | _, _, .nil => rfl
  | _, _, .cons h t => by rw [List.map_cons, List.map_cons, List.map_cons, keys_kV t, h.1]; rfl
/-- some lines to draw one of -/
structure SomeLn (K : PySem.W.Frag) (p c : Addr) (H5 H' : Hp) (L : Addr) (req N : Nat) : Prop where
  pen : Pen H' p c N
  but : But p H5 H'
  ex : ∃ xs, H' L = some (.lst xs) ∧ xs ≠ [] ∧ xs.length ≤ 2 ∧ ∀ x ∈ xs, ∃ l, LnV K H' x l ∧ l.Ok req
  ne : L ≠ p
theorem SomeLn.mono {K : PySem.W.Frag} {p c : Addr} {H5 H' : Hp} {L : Addr} {req N M : Nat} (h : SomeLn K p c H5 H' L req N) (l : N ≤ M) : SomeLn K p c H5 H' L req M := ⟨h.pen.mono l, h.but, h.ex, h.ne⟩
end Fld
/-! entries as data; what two dicts of the same entries say -/
namespace Fld
open PySem PySem.Spec PyProof.Rows L2
def ekv (es : Ent) : List (PyData × PyData) := es.map fun e => (PyData.int (e.1 : Nat), fdat e.2)
theorem ekv_keys {K : PySem.W.Frag} {H : Hp} : ∀ {kvs : List (Key × V)} {es : Ent}, Paired (PrV K H) kvs es → kvs.map (fun p => ofK p.1) = (ekv es).map (·.1)
  | _, _, .nil => rfl
  | _, _, .cons h t => by
    unfold ekv
    rw [List.map_cons, List.map_cons, List.map_cons, ekv_keys t, h.1]; rfl
theorem ekv_vals {K : PySem.W.Frag} {H : Hp} : ∀ {kvs : List (Key × V)} {es : Ent}, Paired (PrV K H) kvs es → DvAll K H (kvs.map (·.2)) ((ekv es).map (·.2))
  | _, _, .nil => .nil
  | _, _, .cons h t => .cons (.ofDp h.2.dp) (ekv_vals t)
theorem EntV.dv {K : PySem.W.Frag} {H : Hp} {D : Addr} {es : Ent} (h : EntV K H D es) : Dv K H (.ref D) (.dict (ekv es)) := by
  obtain ⟨kvs, hD, hp⟩ := h
  exact .dic hD (ekv_keys hp) (ekv_vals hp)
theorem sz_kv : ∀ {es : Ent}, (∀ e ∈ es, e.1 ≤ 40 ∧ FdOk e.2) → okVKv (ekv es) = true ∧ wVKv (ekv es) ≤ 1716 * es.length ∧ PyData.depthKv (ekv es) ≤ 1
  | [], _ => ⟨by unfold ekv; rw [List.map_nil, okVKv], by unfold ekv; rw [List.map_nil, wVKv]; omega, by unfold ekv; rw [List.map_nil, PyData.depthKv]; omega⟩
  | e :: es, h => by
    obtain ⟨h1, h2, h3⟩ := sz_kv (es := es) fun x hx => h x (List.mem_cons_of_mem _ hx)
    obtain ⟨k40, fok⟩ := h e (List.mem_cons_self ..)
    have z := sz_fd fok
    have zi : Sz 1010 0 (.int (e.1 : Nat)) := sz_int (by have h3 : (200 : Nat) < 2 ^ 1000 := by decide +kernel
                                                         omega)
    have e0 : ekv (e :: es) = (PyData.int (e.1 : Nat), fdat e.2) :: ekv es := rfl
    rw [e0]
    refine ⟨by rw [okVKv, zi.ok, z.ok, h1]; rfl, ?_, ?_⟩
    · rw [wVKv, List.length_cons]; have := zi.w; have := z.w; omega
    · rw [PyData.depthKv]; have := zi.dp; have := z.dp; omega
theorem sz_ent {m : Nat} {es : Ent} (h : EsOk m es) (hm : m ≤ 40) : Sz 80000 2 (.dict (ekv es)) := by
  obtain ⟨h1, h2, h3⟩ := sz_kv (es := es) fun e he => ⟨h.key e he, h.fd e he⟩
  have hl := h.len
  have : 1716 * es.length ≤ 1716 * 40 := Nat.mul_le_mul_left _ (by omega)
  exact ⟨by rw [okV]; exact h1, by rw [wV]; omega, by rw [PyData.depth]; omega⟩
theorem sz_ln {r : Nat} {l : Ln} (hr : r ≤ 9999) (ok : l.Ok r) : Sz 1500 1 l.dat := by
  have hi : ∀ n : Nat, n ≤ 9999 → Sz 1010 0 (.int (n : Nat)) := fun n h => sz_int (Nat.lt_of_le_of_lt (show n ≤ 9999 from h) (by decide +kernel))
  have hx : ∀ {x : Str}, txt (.str x) 0 40 = true → Sz 402 0 (.str x) := fun h => sz_txt (b := 40) h
  have hy : ∀ {x : Str}, txt (.str x) 1 20 = true → Sz 202 0 (.str x) := fun h => sz_txt (b := 20) h
  have f5 : Sz 52 0 (.str "fixed") := ⟨by decide, by decide, by decide⟩
  have e5 : Sz 52 0 (.str "entry") := ⟨by decide, by decide, by decide⟩
  have o3 : Sz 32 0 (.str "out") := ⟨by decide, by decide, by decide⟩
  have two : ∀ {a b : PyData}, Sz 52 0 a → Sz 1010 0 b → Sz 1500 1 (.tuple [a, b]) := fun ha hb =>
    sz_tup' (k := 0) (by rw [okVAll, okVAll, okVAll, ha.ok, hb.ok]; rfl) (by rw [wVAll, wVAll, wVAll]; have := ha.w; have := hb.w; omega) (by rw [PyData.depthAll, PyData.depthAll, PyData.depthAll]; have := ha.dp; have := hb.dp; omega)
  have tri : ∀ {a b d : PyData}, Sz 52 0 a → Sz 1010 0 b → Sz 402 0 d → Sz 1500 1 (.tuple [a, b, d]) := fun ha hb hd =>
    sz_tup' (k := 0) (by rw [okVAll, okVAll, okVAll, okVAll, ha.ok, hb.ok, hd.ok]; rfl) (by rw [wVAll, wVAll, wVAll, wVAll]; have := ha.w; have := hb.w; have := hd.w; omega) (by rw [PyData.depthAll, PyData.depthAll, PyData.depthAll, PyData.depthAll]; have := ha.dp; have := hb.dp; have := hd.dp; omega)
  cases l with
  | fix1 n => exact two f5 (hi n ok)
  | ent1 n => exact two e5 (hi n (by have : n < r := ok; omega))
  | fix2 n x => exact tri f5 (hi n ok.1) (hx ok.2)
  | ent2 n x => exact tri e5 (hi n (by have := ok.1; omega)) (hx ok.2)
  | out y x => exact tri (o3.mono (by omega) (by omega)) ((hy ok.1).mono (by omega) (by omega)) (hx ok.2)
theorem sz_b3 {r b : Nat} {ls : List Ln} (hr : r ≤ 9999) (hb : b ≤ 9999) (hl : ls.length ≤ 16) (ok : ∀ l ∈ ls, ∃ q, q ≤ 9999 ∧ l.Ok q) : Sz 26100 3 (.tuple [.int (r : Nat), .int (b : Nat), .tuple (ls.map Ln.dat)]) := by
  have hi : ∀ n : Nat, n ≤ 9999 → Sz 1010 0 (.int (n : Nat)) := fun n h => sz_int (Nat.lt_of_le_of_lt (show n ≤ 9999 from h) (by decide +kernel))
  have each : ∀ d ∈ ls.map Ln.dat, Sz 1500 1 d := fun d hd => by
    obtain ⟨l, hl, rfl⟩ := List.mem_map.mp hd
    obtain ⟨q, hq, o⟩ := ok l hl
    exact sz_ln hq o
  have z : Sz 24040 2 (.tuple (ls.map Ln.dat)) := by
    refine sz_tup' (k := 1) (okVAll_of fun d hd => (each d hd).ok) ?_ (depthAll_le fun d hd => (each d hd).dp)
    have : ∀ l : List PyData, (∀ d ∈ l, wV d ≤ 1500) → wVAll l ≤ 1502 * l.length := by
      intro l
      induction l with
      | nil => intro _; rw [wVAll]; omega
      | cons x l ih =>
        intro hh
        have := ih fun d hd => hh d (List.mem_cons_of_mem _ hd)
        have := hh x (List.mem_cons_self ..)
        rw [wVAll, List.length_cons]; omega
    have := this (ls.map Ln.dat) fun d hd => (each d hd).w
    rw [List.length_map] at this
    omega
  have h1 := hi r hr
  have h2 := hi b hb
  refine sz_tup' (k := 2) (by rw [okVAll, okVAll, okVAll, okVAll, h1.ok, h2.ok, z.ok]; rfl) (by rw [wVAll, wVAll, wVAll, wVAll]; have := h1.w; have := h2.w; have := z.w; omega) ?_
  rw [PyData.depthAll, PyData.depthAll, PyData.depthAll, PyData.depthAll]
  have := h1.dp; have := h2.dp; have := z.dp; omega
theorem noLst_lns : ∀ ls : List Ln, noLstAll (ls.map Ln.dat) = true
  | [] => rfl
  | l :: ls => by
    show (noLst l.dat && noLstAll (ls.map Ln.dat)) = true
    rw [noLst_lns ls]
    cases l <;> rfl
theorem sz_blk {b : Blk} (ok : b.Ok) : Sz 26100 3 b.dat := sz_b3 ok.req_ (by have := ok.req_; have := ok.base_; omega) ok.len_ fun l hl => ⟨_, ok.req_, ok.lns_ l hl⟩
/-- what two reads of the same entries give -/
theorem dle_res {o : Option (List Fd)} (n : Nat) (h : ∀ fs, o = some fs → fs.length ≤ 16) : DLe (n + 2) (resD o) := by
  cases o with
  | none => exact True.intro
  | some fs =>
    have := h fs rfl
    refine ⟨by rw [List.length_map]; omega, fun d hd => ?_⟩
    obtain ⟨f, _, rfl⟩ := List.mem_map.mp hd
    refine ⟨by show 2 ≤ 100000; omega, fun e he => ?_⟩
    simp only [List.mem_cons, List.not_mem_nil, or_false] at he
    rcases he with rfl | rfl <;> (cases n <;> simp [DLe])
/-- pairs made of a dict, from its end: all as they were -/
theorem prs_paired {K : PySem.W.Frag} {H : Hp} : ∀ {ps : List Addr} {kvs : List (Key × V)}, Paired (fun p (kv : Key × V) => SqT K H p [kV kv.1, kv.2]) ps kvs → ps.length = kvs.length
  | _, _, .nil => rfl
  | _, _, .cons _ t => by rw [List.length_cons, List.length_cons, prs_paired t]
end Fld
namespace Fld
open PySem PySem.Spec PyProof.Rows L2
theorem val_mem {κ : Type} [DecidableEq κ] : ∀ {kvs : List (κ × V)} {kv : κ × V}, (kvs.map (·.1)).Nodup → kv ∈ kvs → valV kvs kv.1 = some kv.2
  | x :: kvs, kv, nd, h => by
    rw [List.map_cons, List.nodup_cons] at nd
    rcases List.mem_cons.mp h with rfl | h
    · exact valV_pos rfl
    · rw [valV_neg fun z => nd.1 (List.mem_map.mpr ⟨kv, h, z.symm⟩)]
      exact val_mem nd.2 h
end Fld
namespace Fld
open PySem PySem.Spec PyProof.Rows L2
/-- a start of a list: of no items, or of two -/
theorem cut_two (xs : List V) (b : Bool) : cutV xs none (some (2 * (if b = true then 1 else 0))) = xs.take (2 * b.toNat) := by
  cases b
  · exact cut_to xs 0
  · exact cut_to xs 2
end Fld
/-! the table: its mirror, its object, what its calls promise -/
namespace Fld
open PySem PySem.Spec PyProof.Rows L2
def fsz (f : Fd) : Nat := f.1.length + f.2.length + 4
def sumE (es : Ent) : Nat := (es.map fun e => fsz e.2).sum
def keepE (b m : Nat) : Ent → Ent
  | [] => []
  | e :: es => if m + sumE (e :: es) ≤ b then e :: es else keepE b m es
def goneE (b m : Nat) : Ent → Ent
  | [] => []
  | e :: es => if m + sumE (e :: es) ≤ b then [] else e :: goneE b m es
theorem sumE_cons (e : Nat × Fd) (es : Ent) : sumE (e :: es) = fsz e.2 + sumE es := by unfold sumE; rw [List.map_cons, List.sum_cons]
theorem sumE_app (es fs : Ent) : sumE (es ++ fs) = sumE es + sumE fs := by
  induction es with
  | nil => rw [List.nil_append]; show _ = 0 + _; omega
  | cons e es ih => rw [List.cons_append, sumE_cons, sumE_cons, ih]; omega
theorem gone_keep (b m : Nat) : ∀ es : Ent, goneE b m es ++ keepE b m es = es
  | [] => rfl
  | e :: es => by
    unfold goneE keepE
    by_cases c : m + sumE (e :: es) ≤ b
    · rw [if_pos c, if_pos c]; rfl
    · rw [if_neg c, if_neg c, List.cons_append, gone_keep b m es]
theorem gone_take {b m : Nat} : ∀ (es : Ent) (i : Nat), i ≤ es.length → (∀ j, j < i → ¬ m + sumE (es.drop j) ≤ b) → (i = es.length ∨ m + sumE (es.drop i) ≤ b) → goneE b m es = es.take i ∧ keepE b m es = es.drop i
  | [], i, h, _, _ => by
    have : i = 0 := by simpa using h
    subst this; exact ⟨rfl, rfl⟩
  | e :: es, 0, _, _, h => by
    rcases h with h | h
    · cases h
    · have h' : m + sumE (e :: es) ≤ b := h
      unfold goneE keepE
      rw [if_pos h', if_pos h']
      exact ⟨rfl, rfl⟩
  | e :: es, i + 1, hl, hj, h => by
    have h0 : ¬ m + sumE (e :: es) ≤ b := hj 0 (by omega)
    obtain ⟨h1, h2⟩ := gone_take es i (by simpa using hl) (fun j hj' => hj (j + 1) (by omega)) (by
      rcases h with h | h
      · exact .inl (by simpa using h)
      · exact .inr h)
    unfold goneE keepE
    rw [if_neg h0, if_neg h0, h1, h2]
    exact ⟨rfl, rfl⟩
theorem keep_sum {b m : Nat} (hm : m ≤ b) : ∀ es : Ent, m + sumE (keepE b m es) ≤ b
  | [] => by show m + 0 ≤ b; omega
  | e :: es => by
    unfold keepE
    split
    · assumption
    · exact keep_sum hm es
theorem keep_sub (b m : Nat) (es : Ent) : (keepE b m es).Sublist es := by
  have h := gone_keep b m es
  have := List.sublist_append_right (goneE b m es) (keepE b m es)
  rwa [h] at this
structure Tb where
  bound : Nat
  made : Nat
  es : Ent
structure TbOk (r : Nat) (t : Tb) : Prop where
  rm : r ≤ 120
  bd : t.bound ≤ r
  sum : sumE t.es ≤ t.bound
  asc : (t.es.map (·.1)).Pairwise (· < ·)
  lt : ∀ e ∈ t.es, e.1 < t.made
  mad : t.made ≤ 9999
  fd : ∀ e ∈ t.es, FdOk e.2
theorem fsz_ge {f : Fd} (h : FdOk f) : 5 ≤ fsz f ∧ fsz f ≤ 64 := by
  have h1 : (decide ((1 : Int) ≤ (f.1.length : Int)) && decide ((f.1.length : Int) ≤ 20) && f.1.cps.toList.all isChar) = true := h.n
  have h2 := txt_len h.v
  simp only [Bool.and_eq_true, decide_eq_true_eq] at h1
  unfold fsz
  omega
theorem sum_len : ∀ {es : Ent}, (∀ e ∈ es, FdOk e.2) → 5 * es.length ≤ sumE es
  | [], _ => Nat.le_refl _
  | e :: es, h => by
    have := sum_len (es := es) fun x hx => h x (List.mem_cons_of_mem _ hx)
    have := (fsz_ge (h e (List.mem_cons_self ..))).1
    rw [sumE_cons, List.length_cons]; omega
theorem TbOk.len {r : Nat} {t : Tb} (h : TbOk r t) : t.es.length ≤ 24 := by
  have := sum_len h.fd
  have := h.sum
  have := h.bd
  have := h.rm
  omega
theorem TbOk.nd {r : Nat} {t : Tb} (h : TbOk r t) : (t.es.map (·.1)).Nodup := List.Pairwise.imp (fun h => Nat.ne_of_lt h) h.asc
def lookI (es : Ent) (z : Int) : Option Fd := if z < 0 then none else lookE es z.toNat
def insF (F : List Fd) (t : Tb) : Ins → Option Fd
  | .new y x => some (y, x)
  | .again n => lookI t.es ((t.made : Int) - 1 - (n : Int))
  | .fixed n x => (F[n]?).map fun f => (f.1, x)
  | .entry n x => (lookI t.es ((t.made : Int) - 1 - (n : Int))).map fun f => (f.1, x)
  | .limit _ => none
def putT (t : Tb) (f : Fd) : Tb := ⟨t.bound, t.made + 1, keepE t.bound (fsz f) t.es ++ [(t.made, f)]⟩
def roomT (t : Tb) (f : Fd) : Bool := decide (fsz f ≤ t.bound) && decide (t.made < 9999)
def stepT (F : List Fd) (r : Nat) (t : Tb) : Ins → Option Tb
  | .limit n => if n ≤ r then some ⟨n, t.made, keepE n 0 t.es⟩ else none
  | i => match insF F t i with
    | none => none
    | some f => if roomT t f = true then some (putT t f) else none
theorem look_mem2 {es : Ent} {z : Int} {f : Fd} (h : lookI es z = some f) : ∃ n, (n, f) ∈ es := by
  unfold lookI at h
  split at h
  · cases h
  · exact ⟨_, look_mem h⟩
theorem insF_ok {F : List Fd} {t : Tb} {i : Ins} {f : Fd} {r : Nat} (hF : ∀ f ∈ F, FdOk f) (h : TbOk r t) (hi : i.Ok) (e : insF F t i = some f) : FdOk f := by
  cases i with
  | new y x => cases e; exact ⟨hi.1, hi.2⟩
  | limit n => cases e
  | again n => obtain ⟨k, hk⟩ := look_mem2 e; exact h.fd _ hk
  | fixed n x =>
    obtain ⟨g, hg, rfl⟩ := Option.map_eq_some_iff.mp e
    exact ⟨(hF g (List.mem_of_getElem? hg)).n, hi.2⟩
  | entry n x =>
    obtain ⟨g, hg, rfl⟩ := Option.map_eq_some_iff.mp e
    obtain ⟨k, hk⟩ := look_mem2 hg
    exact ⟨(h.fd _ hk).n, hi.2⟩
theorem keep_ok {r b m : Nat} {t : Tb} (h : TbOk r t) : ((keepE b m t.es).map (·.1)).Pairwise (· < ·) ∧ (∀ e ∈ keepE b m t.es, e.1 < t.made) ∧ ∀ e ∈ keepE b m t.es, FdOk e.2 :=
  ⟨List.Pairwise.sublist (List.Sublist.map _ (keep_sub b m t.es)) h.asc, fun e he => h.lt e ((keep_sub b m t.es).subset he), fun e he => h.fd e ((keep_sub b m t.es).subset he)⟩
theorem TbOk.limit {r n : Nat} {t : Tb} (h : TbOk r t) (hn : n ≤ r) : TbOk r ⟨n, t.made, keepE n 0 t.es⟩ := by
  obtain ⟨h1, h2, h3⟩ := keep_ok (b := n) (m := 0) h
  exact ⟨h.rm, hn, by have := keep_sum (b := n) (m := 0) (by omega) t.es; show sumE (keepE n 0 t.es) ≤ n; omega, h1, h2, h.mad, h3⟩
theorem TbOk.put {r : Nat} {t : Tb} {f : Fd} (h : TbOk r t) (hf : FdOk f) (hr : roomT t f = true) : TbOk r (putT t f) := by
  obtain ⟨h1, h2, h3⟩ := keep_ok (b := t.bound) (m := fsz f) h
  unfold roomT at hr
  rw [Bool.and_eq_true, decide_eq_true_eq, decide_eq_true_eq] at hr
  refine ⟨h.rm, h.bd, ?_, ?_, ?_, by show t.made + 1 ≤ 9999; omega, ?_⟩
  · show sumE (keepE t.bound (fsz f) t.es ++ [(t.made, f)]) ≤ t.bound
    rw [sumE_app, sumE_cons]
    have := keep_sum hr.1 t.es
    show sumE (keepE t.bound (fsz f) t.es) + (fsz f + 0) ≤ t.bound
    omega
  · show ((keepE t.bound (fsz f) t.es ++ [(t.made, f)]).map (·.1)).Pairwise (· < ·)
    rw [List.map_append, List.pairwise_append]
    refine ⟨h1, by simp, ?_⟩
    intro a ha b hb
    obtain ⟨e, he, rfl⟩ := List.mem_map.mp ha
    have : b = t.made := by simpa using hb
    rw [this]; exact h2 e he
  · intro e he
    rcases List.mem_append.mp he with z | z
    · have := h2 e z; show e.1 < t.made + 1; omega
    · rw [List.mem_singleton.mp z]; show t.made < t.made + 1; omega
  · intro e he
    rcases List.mem_append.mp he with z | z
    · exact h3 e z
    · rw [List.mem_singleton.mp z]; exact hf
theorem TbOk.step {F : List Fd} {r : Nat} {t t' : Tb} {i : Ins} (hF : ∀ f ∈ F, FdOk f) (h : TbOk r t) (hi : i.Ok) (e : stepT F r t i = some t') : TbOk r t' := by
  have go : ∀ (o : Option Fd), (∀ f, o = some f → FdOk f) → (match o with | none => none | some f => if roomT t f = true then some (putT t f) else none) = some t' → TbOk r t' := by
    intro o ho e
    cases o with
    | none => cases e
    | some f =>
      simp only at e
      split at e
      · cases e; exact h.put (ho f rfl) (by assumption)
      · cases e
  cases i with
  | limit n =>
    unfold stepT at e
    simp only at e
    split at e
    · cases e; exact h.limit (by assumption)
    · cases e
  | new y x => exact go _ (fun f e2 => insF_ok hF h hi e2) e
  | again n => exact go _ (fun f e2 => insF_ok hF h hi e2) e
  | fixed n x => exact go _ (fun f e2 => insF_ok hF h hi e2) e
  | entry n x => exact go _ (fun f e2 => insF_ok hF h hi e2) e
/-- all instructions, or the number of the first that cannot be carried out -/
def runT (F : List Fd) (r : Nat) (t : Tb) (k : Nat) : List Ins → Except Nat Tb
  | [] => .ok t
  | i :: is => match stepT F r t i with
    | none => .error k
    | some t' => runT F r t' (k + 1) is
def tb0 (r : Nat) : Tb := ⟨r, 0, []⟩
theorem tb0_ok {r : Nat} (h : r ≤ 120) : TbOk r (tb0 r) := ⟨h, Nat.le_refl _, Nat.zero_le _, .nil, fun _ h => (nomatch h), by show 0 ≤ 9999; omega, fun _ h => (nomatch h)⟩
/-! ### lists of a dict -/
theorem dropE_head {e : Nat × Fd} {es : Ent} (h : ((e :: es).map (·.1)).Pairwise (· < ·)) : dropE (e :: es) e.1 = es := by
  rw [List.map_cons, List.pairwise_cons] at h
  unfold dropE
  rw [List.filter_cons, if_neg (by simp), List.filter_eq_self.mpr]
  intro x hx
  have := h.1 x.1 (List.mem_map.mpr ⟨x, hx, rfl⟩)
  exact decide_eq_true (by omega)
theorem putE_new {n : Nat} {f : Fd} {es : Ent} (h : ∀ e ∈ es, e.1 < n) : putE es n f = es ++ [(n, f)] := by
  unfold putE
  rw [if_neg]
  intro z
  obtain ⟨e, he, e2⟩ := List.any_eq_true.mp z
  have := h e he
  have := of_decide_eq_true e2
  omega
/-- these objects may have changed -/
def ButS (S : List Addr) (H H' : Hp) : Prop := ∀ b o, b ∉ S → H b = some o → H' b = some o
theorem ButS.of {S : List Addr} {H H' : Hp} (s : Same H H') : ButS S H H' := fun b o _ e => s b o e
theorem ButS.trans {S : List Addr} {H H1 H2 : Hp} (a : ButS S H H1) (b : ButS S H1 H2) : ButS S H H2 := fun c o n e => b c o n (a c o n e)
theorem ButS.mono {S S' : List Addr} {H H1 : Hp} (a : ButS S H H1) (h : ∀ b ∈ S, b ∈ S') : ButS S' H H1 := fun c o n e => a c o (fun z => n (h c z)) e
theorem ButS.set {S : List Addr} {H : Hp} {q : Addr} {o : HO} (h : q ∈ S) : ButS S H (upd H q o) := fun b u n e => by
  have nb : b ≠ q := fun z => n (by rw [z]; exact h)
  rw [upd_ne nb]; exact e
theorem ButS.ts {S : List Addr} {H H' : Hp} (b : ButS S H H') (h : ∀ a ∈ S, ∀ o, H a = some o → ¬ IsTupO o) : TS H H' := fun a u t e => by
  by_cases z : a ∈ S
  · exact absurd t (h a z u e)
  · exact b a u z e
/-- the table at a, its entries at D -/
def tfs (sv : V) (t : Tb) (D : Addr) : List (Str × V) := [("setting", sv), ("bound", .int (t.bound : Nat)), ("made", .int (t.made : Nat)), ("kept", .ref D)]
structure TblV (K : PySem.W.Frag) (C : Addr) (H : Hp) (a D : Addr) (sv : V) (F : List Fd) (r w : Nat) (t : Tb) : Prop where
  ob : ∃ dx, H a = some (.ins C dx (tfs sv t D))
  en : EntV K H D t.es
  st : SetV K H sv F r w
theorem TblV.ne {K : PySem.W.Frag} {C : Addr} {H : Hp} {a D : Addr} {sv : V} {F : List Fd} {r w : Nat} {t : Tb} (h : TblV K C H a D sv F r w t) : D ≠ a := by
  obtain ⟨dx, e⟩ := h.ob
  obtain ⟨kvs, e2, _⟩ := h.en
  intro z
  rw [z, e] at e2; cases e2
theorem TblV.same {K : PySem.W.Frag} {C : Addr} {H H' : Hp} {a D : Addr} {sv : V} {F : List Fd} {r w : Nat} {t : Tb} (h : TblV K C H a D sv F r w t) (s : Same H H') : TblV K C H' a D sv F r w t := by
  obtain ⟨dx, e⟩ := h.ob
  exact ⟨⟨dx, s _ _ e⟩, h.en.same s, h.st.ts (.of s)⟩
theorem TblV.nt {K : PySem.W.Frag} {C : Addr} {H : Hp} {a D : Addr} {sv : V} {F : List Fd} {r w : Nat} {t : Tb} (h : TblV K C H a D sv F r w t) : ∀ b ∈ [a, D], ∀ o, H b = some o → ¬ IsTupO o := by
  obtain ⟨dx, e⟩ := h.ob
  obtain ⟨kvs, e2, _⟩ := h.en
  intro b hb o ho
  simp only [List.mem_cons, List.not_mem_nil, or_false] at hb
  rcases hb with rfl | rfl
  · rw [e] at ho; cases ho; exact nt_ins
  · rw [e2] at ho; cases ho; exact nt_dK
def sp_entry_size (K : PySem.W.Frag) : Sp := fun vs H Q _ => ∃ (v : V) (f : Fd), vs = [v] ∧ FdV K H v f ∧ FdOk f ∧ Q (.int (fsz f : Nat)) H
def sp_Table_init (K : PySem.W.Frag) : Sp := fun vs H Q _ => ∃ (a C dx : Addr) (sv : V) (F : List Fd) (r w : Nat), vs = [.ref a, sv] ∧ H a = some (.ins C dx []) ∧ Cls K C ∧ NoAttr K C "setting" ∧ NoAttr K C "bound" ∧ NoAttr K C "made" ∧ NoAttr K C "kept" ∧ SetV K H sv F r w ∧
  ∀ D H', D ≠ a → H D = none → (∀ b, b ≠ a → b ≠ D → H' b = H b) → H' a = some (.ins C dx (tfs sv (tb0 r) D)) → H' D = some (.dK []) → Q .non H'
def sp_has_room (K : PySem.W.Frag) (C : Addr) : Sp := fun vs H Q _ => ∃ (a D : Addr) (sv v : V) (F : List Fd) (r w : Nat) (t : Tb) (f : Fd), vs = [.ref a, v] ∧ TblV K C H a D sv F r w t ∧ FdV K H v f ∧ FdOk f ∧ Q (.bl (roomT t f)) H
def eInts (es : Ent) : List V := es.map fun e => V.int ((e.1 : Nat) : Int)
def sp_leaving (K : PySem.W.Frag) (C : Addr) : Sp := fun vs H Q _ => ∃ (a D : Addr) (sv : V) (F : List Fd) (r w b m : Nat) (t : Tb), vs = [.ref a, .int b, .int m] ∧ TblV K C H a D sv F r w t ∧ TbOk r t ∧ m ≤ 1000 ∧ b ≤ 1000 ∧
  ∀ L H', H L = none → Same H H' → H' L = some (.lst (eInts (goneE b m t.es))) → Q (.ref L) H'
def sp_drop (K : PySem.W.Frag) (C : Addr) : Sp := fun vs H Q _ => ∃ (a D L : Addr) (sv : V) (F : List Fd) (r w b m : Nat) (t : Tb), vs = [.ref a, .ref L] ∧ TblV K C H a D sv F r w t ∧ TbOk r t ∧ H L = some (.lst (eInts (goneE b m t.es))) ∧
  ∀ H', ButS [D] H H' → EntV K H' D (keepE b m t.es) → Q .non H'
def sp_set_bound (K : PySem.W.Frag) (C : Addr) : Sp := fun vs H Q _ => ∃ (a D : Addr) (sv : V) (F : List Fd) (r w n : Nat) (t : Tb), vs = [.ref a, .int n] ∧ TblV K C H a D sv F r w t ∧ TbOk r t ∧
  (¬ n ≤ r → Q (.bl false) H) ∧ (n ≤ r → ∀ H', ButS [a, D] H H' → TblV K C H' a D sv F r w ⟨n, t.made, keepE n 0 t.es⟩ → Q (.bl true) H')
def sp_inserted (K : PySem.W.Frag) (C : Addr) : Sp := fun vs H Q _ => ∃ (a D : Addr) (sv v : V) (F : List Fd) (r w : Nat) (t : Tb) (i : Ins), vs = [.ref a, v] ∧ TblV K C H a D sv F r w t ∧ InsV K H v i ∧ (∀ n, i ≠ .limit n) ∧ F.length ≤ 12 ∧
  ∀ u H', Same H H' → OFd K H' u (insF F t i) → Q u H'
def sp_carry_out (K : PySem.W.Frag) (C : Addr) : Sp := fun vs H Q _ => ∃ (a D : Addr) (sv v : V) (F : List Fd) (r w : Nat) (t : Tb) (i : Ins), vs = [.ref a, v] ∧ TblV K C H a D sv F r w t ∧ TbOk r t ∧ SetOk F r w ∧ InsV K H v i ∧ i.Ok ∧
  (stepT F r t i = none → ∀ H', Same H H' → Q (.bl false) H') ∧ ∀ t', stepT F r t i = some t' → ∀ H', ButS [a, D] H H' → TblV K C H' a D sv F r w t' → Q (.bl true) H'
def sp_referredZ (K : PySem.W.Frag) : Sp := fun vs H Q _ => ∃ (t D : Addr) (F : List Fd) (es : Ent) (z : Int), vs = [.ref t, .ref D, .str "entry", .int z] ∧ TabV K H t D F es ∧ ∀ v, OFd K H v (lookI es z) → Q v H
def sp_said_fieldZ (K : PySem.W.Frag) : Sp := fun vs H Q _ => ∃ (t D u : Addr) (F : List Fd) (es : Ent) (z : Int) (x : Str), vs = [.ref t, .ref D, .ref u] ∧ TabV K H t D F es ∧ SqT K H u [.str "entry", .int z, .str x] ∧
  ∀ r H', Same H H' → OFd K H' r ((lookI es z).map fun f => (f.1, x)) → Q r H'
theorem look_int {K : PySem.W.Frag} {H : Hp} {z : Int} {kvs : List (Key × V)} {es : Ent} (h : Paired (PrV K H) kvs es) : (valV kvs (Sum.inl z) = none ∧ lookI es z = none) ∨ ∃ v f, valV kvs (Sum.inl z) = some v ∧ lookI es z = some f ∧ FdV K H v f := by
  unfold lookI
  by_cases c : z < 0
  · refine .inl ⟨?_, by rw [if_pos c]⟩
    induction h with
    | nil => rfl
    | cons h t ih =>
      rw [valV_neg (by rw [h.1]; intro e; have := Sum.inl.inj e; omega)]
      exact ih
  · rw [if_neg c]
    have e : (Sum.inl z : Key) = nkey z.toNat := by unfold nkey; congr 1; omega
    rw [e]
    exact look_get h
end Fld
namespace Fld
open PySem PySem.Spec PyProof.Rows L2
def fd0 : Nat × Fd := ((0 : Nat), (("" : Str), ("" : Str)))
theorem sum_ints : ∀ es : Ent, (es.map fun e => ((fsz e.2 : Nat) : Int)).sum = ((sumE es : Nat) : Int)
  | [] => rfl
  | e :: es => by rw [List.map_cons, List.sum_cons, sum_ints es, sumE_cons]; omega
theorem sum_range (es : Ent) : ((List.range es.length).map fun i => ((fsz (es.getD i fd0).2 : Nat) : Int)).sum = ((sumE es : Nat) : Int) := by
  rw [range_map es (fun e => ((fsz e.2 : Nat) : Int)) fd0, sum_ints]
theorem drop_at {es : Ent} {i : Nat} {e : Nat × Fd} (h : es[i]? = some e) : es.drop i = e :: es.drop (i + 1) := by
  obtain ⟨hlt, he⟩ := List.getElem?_eq_some_iff.mp h
  rw [List.drop_eq_getElem_cons hlt, he]
/-- a dict locked and set free again -/
theorem unlock {H H' : Hp} {D : Addr} {od : Obj} {u : HO} (hD : H D = some u) (s : Same (upd H D (.frz od u)) H') : Same H (upd H' D u) := fun b o e => by
  by_cases z : b = D
  · subst z; rw [upd_same]; rw [hD] at e; exact e
  · rw [upd_ne z]; exact s b o (by rw [upd_ne z]; exact e)
theorem FnOk_or {P : Program} {w : World} {K : PySem.W.Frag} {mg : Str → Option Value} {base : Heap} {CX : CXT} {k : Nat} {f : Addr} {fd : FuncData} {ps : List Str} {s1 s2 : Sp} (G1 : FnOk P w K mg base CX k f fd ps s1) (G2 : FnOk P w K mg base CX k f fd ps s2) :
    FnOk P w K mg base CX k f fd ps (fun vs H Q E => s1 vs H Q E ∨ s2 vs H Q E) :=
  ⟨fun vs H Q E h => h.elim (G1.1 vs H Q E) (G2.1 vs H Q E), fun a b c d e f g h i j k l m z => z.elim (G1.2 a b c d e f g h i j k l m) (G2.2 a b c d e f g h i j k l m)⟩
end Fld
namespace Fld
open PySem PySem.Spec PyProof.Rows L2
def kd : Ins → Str
  | .again _ => "again"
  | .limit _ => "limit"
  | .fixed _ _ => "fixed"
  | .entry _ _ => "entry"
  | .new _ _ => "new"
theorem kd_at (i : Ins) : atI i.vs 0 = some (.str (kd i)) := by cases i <;> rfl
theorem kd_no {i : Ins} (h : ∀ n, i ≠ .limit n) : decide (V.str (kd i) = V.str "limit") = false := by
  cases i with
  | limit n => exact absurd rfl (h n)
  | again n => show decide (V.str ("again" : Str) = V.str "limit") = false; decide
  | fixed n x => show decide (V.str ("fixed" : Str) = V.str "limit") = false; decide
  | entry n x => show decide (V.str ("entry" : Str) = V.str "limit") = false; decide
  | new y x => show decide (V.str ("new" : Str) = V.str "limit") = false; decide
theorem step_no {F : List Fd} {r : Nat} {t : Tb} {i : Ins} (h : ∀ n, i ≠ .limit n) : stepT F r t i = match insF F t i with | none => none | some f => if roomT t f = true then some (putT t f) else none := by
  cases i with
  | limit n => exact absurd rfl (h n)
  | again n => rfl
  | fixed n x => rfl
  | entry n x => rfl
  | new y x => rfl
theorem InsV.ts {K : PySem.W.Frag} {H H' : Hp} {v : V} {i : Ins} (h : InsV K H v i) (t : TS H H') : InsV K H' v i := let ⟨a, e, s⟩ := h; ⟨a, e, t.tup s⟩
abbrev InssV (K : PySem.W.Frag) (H : Hp) (xs : List V) (is : List Ins) : Prop := Paired (InsV K H) xs is
theorem InssV.ts {K : PySem.W.Frag} {H H' : Hp} {xs : List V} {is : List Ins} (h : InssV K H xs is) (t : TS H H') : InssV K H' xs is := pmap (fun _ _ z => z.ts t) h
theorem runT_ok {F : List Fd} {r : Nat} (hF : ∀ f ∈ F, FdOk f) : ∀ {is : List Ins} {t t' : Tb} {k : Nat}, TbOk r t → (∀ i ∈ is, i.Ok) → runT F r t k is = .ok t' → TbOk r t'
  | [], t, t', k, h, _, e => by cases e; exact h
  | i :: is, t, t', k, h, hi, e => by
    unfold runT at e
    cases c : stepT F r t i with
    | none => rw [c] at e; cases e
    | some u =>
      rw [c] at e
      exact runT_ok hF (h.step hF (hi i (List.mem_cons_self ..)) c) (fun j hj => hi j (List.mem_cons_of_mem _ hj)) e
/-- run_table over a setting and instructions -/
def RunRes (K : PySem.W.Frag) (N : Addr) (H : Hp) (Q : VK) (E : XK) : Except Nat Tb → Prop
  | .ok t => ∀ D p H', H D = none → H p = none → Same H H' → H' p = some (.tup [.int (t.made : Nat), .ref D]) → EntV K H' D t.es → Q (.ref p) H'
  | .error k => ∀ d H', Same H H' → H' d = some (.xd [("number", .int (k : Nat))]) → E (.ref N) (some d) H'
def sp_run_table (K : PySem.W.Frag) (N : Addr) : Sp := fun vs H Q E => ∃ (sv : V) (L : Addr) (F : List Fd) (r w : Nat) (xs : List V) (is : List Ins), vs = [sv, .ref L] ∧ SetV K H sv F r w ∧ SetOk F r w ∧ SqL K H L xs ∧ InssV K H xs is ∧ (∀ i ∈ is, i.Ok) ∧ is.length ≤ 1000 ∧
  RunRes K N H Q E (runT F r (tb0 r) 0 is)
end Fld
/-! the law's own table: states, what its draws promise -/
namespace Fld
open PySem PySem.Spec PyProof.Rows L2
/-- all tuples and dicts stand -/
def KS (H H' : Hp) : Prop := ∀ a u, (IsTupO u ∨ ∃ kvs, u = .dK kvs) → H a = some u → H' a = some u
theorem KS.refl (H : Hp) : KS H H := fun _ _ _ e => e
theorem KS.trans {H H1 H2 : Hp} (a : KS H H1) (b : KS H1 H2) : KS H H2 := fun c u t e => b c u t (a c u t e)
theorem KS.of {H H1 : Hp} (s : Same H H1) : KS H H1 := fun c u _ e => s c u e
theorem KS.ts {H H1 : Hp} (k : KS H H1) : TS H H1 := fun a u t e => k a u (.inl t) e
theorem KS.but {p : Addr} {H H' : Hp} {xs : List V} (b : But p H H') (h : H p = some (.lst xs)) : KS H H' := fun a u t e => by
  by_cases z : a = p
  · subst z; rw [h] at e; cases e
    rcases t with t | ⟨_, t⟩
    · exact absurd t nt_lst
    · cases t
  · exact b a u z e
theorem KS.drew {p c : Addr} {H H' : Hp} {n m : Nat} (hp : Pen H p c n) (d : Drew p c H H' m) : KS H H' := by
  obtain ⟨⟨xs, e⟩, _⟩ := hp.some
  exact KS.but d.but e
theorem KS.at {H : Hp} {q : Addr} {xs : List V} {o : HO} (h : H q = some (.lst xs)) : KS H (upd H q o) := KS.but But.set h
theorem EntV.ks {K : PySem.W.Frag} {H H' : Hp} {D : Addr} {es : Ent} (h : EntV K H D es) (k : KS H H') : EntV K H' D es := by
  obtain ⟨kvs, e, p⟩ := h
  exact ⟨kvs, k _ _ (.inr ⟨_, rfl⟩) e, pmap (fun _ _ z => z.ts k.ts) p⟩
/-- a state: entries, how many, the bound -/
def StV (K : PySem.W.Frag) (H : Hp) (v : V) (t : Tb) : Prop := ∃ a D, v = .ref a ∧ SqT K H a [.ref D, .int (t.made : Nat), .int (t.bound : Nat)] ∧ EntV K H D t.es
theorem StV.ks {K : PySem.W.Frag} {H H' : Hp} {v : V} {t : Tb} (h : StV K H v t) (k : KS H H') : StV K H' v t := let ⟨a, D, e, s, n⟩ := h; ⟨a, D, e, k.ts.tup s, n.ks k⟩
theorem StV.same {K : PySem.W.Frag} {H H' : Hp} {v : V} {t : Tb} (h : StV K H v t) (s : Same H H') : StV K H' v t := h.ks (.of s)
def sp_law_size (K : PySem.W.Frag) : Sp := fun vs H Q _ => ∃ (v : V) (f : Fd), vs = [v] ∧ FdV K H v f ∧ FdOk f ∧ Q (.int (fsz f : Nat)) H
/-- entries whose numbers rise -/
structure Asc (es : Ent) : Prop where
  asc : (es.map (·.1)).Pairwise (· < ·)
  fd : ∀ e ∈ es, FdOk e.2
  len : es.length ≤ 60
theorem Asc.nd {es : Ent} (h : Asc es) : (es.map (·.1)).Nodup := List.Pairwise.imp (fun h => Nat.ne_of_lt h) h.asc
theorem TbOk.ascE {r : Nat} {t : Tb} (h : TbOk r t) : Asc t.es := ⟨h.asc, h.fd, by have := h.len; omega⟩
def sp_without_old (K : PySem.W.Frag) : Sp := fun vs H Q _ => ∃ (D : Addr) (es : Ent) (b m : Nat), vs = [.ref D, .int b, .int m] ∧ EntV K H D es ∧ Asc es ∧ ∀ D' H', H D' = none → Same H H' → EntV K H' D' (keepE b m es) → Q (.ref D') H'
def CarRes (K : PySem.W.Frag) (H : Hp) (Q : VK) : Option Tb → Prop
  | none => ∀ H', Same H H' → Q .non H'
  | some t => ∀ v H', Same H H' → StV K H' v t → Q v H'
def sp_law_carried (K : PySem.W.Frag) : Sp := fun vs H Q _ => ∃ (sv st v : V) (F : List Fd) (r w : Nat) (t : Tb) (i : Ins), vs = [sv, st, v] ∧ SetV K H sv F r w ∧ SetOk F r w ∧ StV K H st t ∧ TbOk r t ∧ t.made < 9999 ∧ InsV K H v i ∧ i.Ok ∧ CarRes K H Q (stepT F r t i)
def sp_draw_step (K : PySem.W.Frag) : Sp := fun vs H Q _ => ∃ (p c : Addr) (n : Nat) (sv st : V) (F : List Fd) (r w : Nat) (t : Tb), vs = [.ref p, sv, st] ∧ Pen H p c n ∧ n ≤ 600000 ∧ SetV K H sv F r w ∧ SetOk F r w ∧ StV K H st t ∧ TbOk r t ∧
  ∀ v i H', InsV K H' v i → i.Ok → Drew p c H H' (n + 150) → Q v H'
def sp_draw_work (K : PySem.W.Frag) : Sp := fun vs H Q _ => ∃ (p c : Addr) (n m : Nat) (sv : V) (F : List Fd) (r w : Nat), vs = [.ref p, sv, .int m] ∧ Pen H p c n ∧ n ≤ 500000 ∧ m ≤ 60 ∧ SetV K H sv F r w ∧ SetOk F r w ∧
  ∀ q L st xs is t H', SqT K H' q [.ref L, st] → L ≠ p → H L = none → H' L = some (.lst xs) → InssV K H' xs is → (∀ i ∈ is, i.Ok) → is.length ≤ m → StV K H' st t → TbOk r t → runT F r (tb0 r) 0 is = .ok t → t.made ≤ is.length → Drew p c H H' (n + 10000) → Q (.ref q) H'
def pairD (es : Ent) : List PyData := es.map fun e => .tuple [.int (e.1 : Nat), fdat e.2]
def sp_law_pairs (K : PySem.W.Frag) : Sp := fun vs H Q _ => ∃ (D : Addr) (es : Ent), vs = [.ref D] ∧ EntV K H D es ∧ Asc es ∧ ∀ v H', Same H H' → Dp K H' v (.list (pairD es)) → Q v H'
/-- the numbers in order -/
theorem sorted_keys {es : Ent} (h : Asc es) {ys : List Int} (p : ys.Perm (es.map fun e => ((e.1 : Nat) : Int))) (o : ys.Pairwise (· ≤ ·)) : ys = es.map fun e => ((e.1 : Nat) : Int) := by
  refine PySem.W.ksm_same p o ?_
  have h1 := h.asc
  rw [List.pairwise_map] at h1 ⊢
  exact List.Pairwise.imp (fun h => by omega) h1
theorem keep_all {b m : Nat} {es : Ent} (h : m + sumE es ≤ b) : keepE b m es = es := by
  cases es with
  | nil => rfl
  | cons e es => unfold keepE; rw [if_pos h]
theorem keep_drop {b m : Nat} {es : Ent} {i : Nat} (hl : i ≤ es.length) (hj : ∀ j, j < i → ¬ m + sumE (es.drop j) ≤ b) (h : m + sumE (es.drop i) ≤ b) : keepE b m es = es.drop i := (gone_take es i hl hj (.inr h)).2
/-- many steps, one after the other -/
theorem runT_snoc {F : List Fd} {r : Nat} {i : Ins} : ∀ {is : List Ins} {t t' : Tb} {k : Nat}, runT F r t k is = .ok t' → ∀ {u : Tb}, stepT F r t' i = some u → runT F r t k (is ++ [i]) = .ok u
  | [], t, t', k, e, u, h => by
    cases e
    show runT F r t k [i] = _
    unfold runT
    rw [h]; rfl
  | j :: is, t, t', k, e, u, h => by
    unfold runT at e
    rw [List.cons_append]
    unfold runT
    cases c : stepT F r t j with
    | none => rw [c] at e; cases e
    | some v =>
      rw [c] at e
      exact runT_snoc e h
theorem step_made {F : List Fd} {r : Nat} {t t' : Tb} {i : Ins} (e : stepT F r t i = some t') : t'.made ≤ t.made + 1 := by
  have go : ∀ (o : Option Fd), (match o with | none => none | some f => if roomT t f = true then some (putT t f) else none) = some t' → t'.made ≤ t.made + 1 := by
    intro o e
    cases o with
    | none => cases e
    | some f =>
      simp only at e
      split at e
      · cases e; exact Nat.le_refl _
      · cases e
  cases i with
  | limit n =>
    unfold stepT at e
    simp only at e
    split at e
    · cases e; exact Nat.le_succ _
    · cases e
  | new y x => exact go (insF F t (.new y x)) e
  | again n => exact go (insF F t (.again n)) e
  | fixed n x => exact go (insF F t (.fixed n x)) e
  | entry n x => exact go (insF F t (.entry n x)) e
end Fld
namespace Fld
open PySem PySem.Spec PyProof.Rows L2
theorem dpAll_app {K : PySem.W.Frag} {H : Hp} : ∀ {xs ys : List V} {ds es : List PyData}, DpAll K H xs ds → DpAll K H ys es → DpAll K H (xs ++ ys) (ds ++ es)
  | _, _, _, _, .nil, s => s
  | _, _, _, _, .cons r t, s => .cons r (dpAll_app t s)
mutual
/-- data of tuples alone -/
def tupD : PyData → Bool
  | .list _ => false
  | .dict _ => false
  | .tuple xs => tupDAll xs
  | _ => true
def tupDAll : List PyData → Bool
  | [] => true
  | x :: xs => tupD x && tupDAll xs
end
mutual
theorem dp_ts {K : PySem.W.Frag} {H H' : Hp} (t : TS H H') : ∀ {v : V} {d : PyData}, Dp K H v d → tupD d = true → Dp K H' v d
  | _, _, .non, _ => .non
  | _, _, .bl b, _ => .bl b
  | _, _, .int i, _ => .int i
  | _, _, .str x, _ => .str x
  | _, _, .lst h a, n => by rw [tupD] at n; cases n
  | _, _, .tup h a, n => .tup (t.tup h) (dpAll_ts t a (by rw [tupD] at n; exact n))
theorem dpAll_ts {K : PySem.W.Frag} {H H' : Hp} (t : TS H H') : ∀ {vs : List V} {ds : List PyData}, DpAll K H vs ds → tupDAll ds = true → DpAll K H' vs ds
  | _, _, .nil, _ => .nil
  | _, _, .cons h s, n => by
    rw [tupDAll, Bool.and_eq_true] at n
    exact .cons (dp_ts t h n.1) (dpAll_ts t s n.2)
end
theorem tup_pair : ∀ es : Ent, tupDAll (pairD es) = true
  | [] => rfl
  | e :: es => by
    show (tupD (.tuple [.int (e.1 : Nat), fdat e.2]) && tupDAll (pairD es)) = true
    rw [tup_pair es]; rfl
theorem tupD_take : ∀ {ds : List PyData} (n : Nat), tupDAll ds = true → tupDAll (ds.take n) = true
  | _, 0, _ => rfl
  | [], _ + 1, _ => rfl
  | d :: ds, n + 1, h => by
    rw [tupDAll, Bool.and_eq_true] at h
    show (tupD d && tupDAll (ds.take n)) = true
    rw [h.1, tupD_take n h.2]; rfl
theorem pairs_keep {K : PySem.W.Frag} {H H1 H2 : Hp} {ps : List V} {es : Ent} {j : Nat} (h : DpAll K H ps ((pairD es).take j)) (s : Same H H1) (t : TS H1 H2) : DpAll K H2 ps ((pairD es).take j) := dpAll_ts ((TS.of s).trans t) h (tupD_take j (tup_pair es))
end Fld
/-! != of a dict and {}; != of two equal pairs of a number and a dict -/
namespace Fld
open PySem PySem.Spec PyProof.Rows L2
section
variable {X : Cx}
def rNeDic : R2 := fun x y H Q => ∃ a b ks, x = .ref a ∧ y = .ref b ∧ H a = some (.dK ks) ∧ H b = some (.dK []) ∧ Q (.bl (!ks.isEmpty)) H
theorem op_neDic (hu : X.A.units + 64 < cLine) : OpR X (compareOp .NotEq) rNeDic := by
  intro pins s σ H x y v u Q I rx ry h
  obtain ⟨a, b, ks, rfl, rfl, ea, eb, q⟩ := h
  obtain rfl : v = Value.ref a := rx
  obtain rfl : u = Value.ref b := ry
  obtain ⟨_, ya, va, ra, da⟩ := dk_of I.hok ea
  obtain ⟨_, yb, vb, rb, db⟩ := dk_of I.hok eb
  cases rb
  cases ra with
  | nil => exact PySem.W.keq_ne (knd := mixKind X.prog X.w) (r := true) ya yb da db (by omega) (fun _ => .nil) ⟨.bl false, H, I, rfl, q⟩
  | cons h t => exact PySem.W.keq_ne (knd := mixKind X.prog X.w) (r := true) ya yb da db (by omega) (fun z => (nomatch z)) ⟨.bl true, H, I, rfl, q⟩
/-- equal fields -/
theorem fd_eqAt {A : Around} {pins : List (Addr × Obj)} {σ : L2.St} {H : Hp} {s : Shared} (I : Inv X pins σ H s) (hu : A.units + 2 < cLine) {v u : V} {f : Fd} {x y : Value} (h1 : FdV X.K H v f) (h2 : FdV X.K H u f) (rx : RelV v x) (ry : RelV u y) : SeqAt.EqAt A s x y true := by
  obtain ⟨a, rfl, ha⟩ := h1
  obtain ⟨b, rfl, hb⟩ := h2
  cases rx
  cases ry
  by_cases e : a = b
  · subst e; exact SeqAt.EqAt.same _
  obtain ⟨i1, r1, t1, _⟩ := I.tuple ha
  obtain ⟨i2, r2, t2, _⟩ := I.tuple hb
  obtain ⟨x1, x2, rfl, p1, p2⟩ := vals2 r1
  obtain ⟨y1, y2, rfl, q1, q2⟩ := vals2 r2
  obtain ⟨k1, rfl⟩ := p1
  obtain ⟨k2, rfl⟩ := p2
  obtain ⟨k3, rfl⟩ := q1
  obtain ⟨k4, rfl⟩ := q2
  have same : ∀ (z : Str) (t t' : Tok), SeqAt.EqAt A.in1 s (.str z t) (.str z t') true := fun z t t' => by
    have := SeqAt.EqAt.str_str (A := A.in1) (s := s) z t z t'
    rw [beq_self_eq_true] at this; exact this
  refine SeqAt.EqAt.of_refs e ?_
  have := SeqAt.RcAt.tuples (A := A) (s := s) (l := a) (b := b) (e := fun _ => true) t1 t2 (by omega) (fun j h1 h2 => by
    match j, h1, h2 with
    | 0, _, _ => exact same _ _ _
    | 1, _, _ => exact same _ _ _)
  exact this
theorem hits_of {A : Around} {s : Shared} {kb : List (Key × Value)} : ∀ {ka : List (Key × Value)}, (∀ k v, (k, v) ∈ ka → ∃ y, valueAt kb k = some y ∧ SeqAt.EqAt A s v y true) → PySem.W.KeqHits A s kb ka true
  | [], _ => .nil
  | (k, v) :: r, h => by
    obtain ⟨y, h1, h2⟩ := h k v (List.mem_cons_self ..)
    exact PySem.W.KeqHits.hit (e := true) (b := true) h1 h2 (hits_of fun k' v' hm => h k' v' (List.mem_cons_of_mem _ hm))
theorem kv_mem {kvs : List (Key × V)} {vs : List (Key × Value)} (r : KV kvs vs) {k : Key} {x : Value} (h : (k, x) ∈ vs) : ∃ v, (k, v) ∈ kvs ∧ RelV v x := by
  unfold KV at r
  induction r with
  | nil => cases h
  | @cons p q _ _ h1 t ih =>
    rcases List.mem_cons.mp h with e | h
    · refine ⟨p.2, ?_, by have := h1.2; rw [← e] at this; exact this⟩
      have : p.1 = k := by rw [h1.1, ← e]
      rw [← this]; exact List.mem_cons_self ..
    · obtain ⟨v, hv, rv⟩ := ih h
      exact ⟨v, List.mem_cons_of_mem _ hv, rv⟩
theorem pairs_mem {P : Program} {w : World} : ∀ {es : List DictEntry} {vs : List (Key × Value)}, Pairs (mixKind P w) es vs → ∀ e ∈ es, ∃ p ∈ vs, keyIs p.1 e.key = true
  | _, _, .nil, e, h => by cases h
  | _, _, .cons h1 h2 t, e, h => by
    rcases List.mem_cons.mp h with rfl | h
    · exact ⟨_, List.mem_cons_self .., h1⟩
    · obtain ⟨p, hp, k⟩ := pairs_mem t e h
      exact ⟨p, List.mem_cons_of_mem _ hp, k⟩
theorem pairs_any {P P' : Program} {w w' : World} : ∀ {es : List DictEntry} {vs : List (Key × Value)}, Pairs (mixKind P w) es vs → Pairs (mixKind P' w') es vs
  | _, _, .nil => .nil
  | _, _, .cons h1 h2 t => .cons h1 h2 (pairs_any t)
theorem dict_any {P P' : Program} {w w' : World} {h : Heap} {a : Addr} {vs : List (Key × Value)} (hk : ∀ p ∈ vs, ∃ i, p.1 = Sum.inl i) (d : h.DictOf (mixKind P w) a vs) : h.DictOf (mixKind P' w') a vs := by
  obtain ⟨o, es, ep, h1, h2, h3, ko, pr, nd⟩ := d
  refine ⟨o, es, ep, h1, h2, h3, fun e he => ?_, pairs_any pr, nd⟩
  obtain ⟨k, k1, k2⟩ := ko e he
  obtain ⟨p, hp, k3⟩ := pairs_mem pr e (Array.mem_toList_iff.mpr he)
  obtain ⟨i, ei⟩ := hk p hp
  rw [ei] at k3
  rcases keyIs_shape k3 with ⟨j, t, e1, e2⟩ | ⟨x, t, e1, _⟩
  · rcases keyIs_shape k1 with ⟨j', t', e3, _⟩ | ⟨x, t', _, e4⟩
    · subst e3; exact ⟨_, k1, k2⟩
    · rw [e2] at e4; cases e4
  · cases e1
theorem keys_int {K : PySem.W.Frag} {H : Hp} {kvs : List (Key × V)} {es : Ent} {vs : List (Key × Value)} (h : Paired (PrV K H) kvs es) (r : KV kvs vs) : ∀ p ∈ vs, ∃ i, p.1 = Sum.inl i := by
  intro p hp
  have e : p.1 ∈ kvs.map (·.1) := by rw [r.keys]; exact List.mem_map.mpr ⟨p, hp, rfl⟩
  obtain ⟨kv, hkv, e2⟩ := List.mem_map.mp e
  obtain ⟨j, hj⟩ := List.getElem?_of_mem hkv
  obtain ⟨en, _, hpe⟩ := p_at h hj
  exact ⟨_, e2.symm.trans hpe.1⟩
def rNeTD (K : PySem.W.Frag) : R2 := fun x y H Q => ∃ (p q a b : Addr) (n : Int) (es : Ent), x = .ref p ∧ y = .ref q ∧ SqT K H p [.int n, .ref a] ∧ SqT K H q [.int n, .ref b] ∧ EntV K H a es ∧ EntV K H b es ∧ (es.map (·.1)).Nodup ∧ Q (.bl false) H
theorem op_neTD (hu : X.A.units + 64 < cLine) : OpR X (compareOp .NotEq) (rNeTD X.K) := by
  intro pins s σ H x y v u Q I rx ry h
  obtain ⟨p, q, a, b, n, es, rfl, rfl, hp, hq, ⟨ka, ea, pa⟩, ⟨kb, eb, pb⟩, nd, hQ⟩ := h
  obtain rfl : v = Value.ref p := rx
  obtain rfl : u = Value.ref q := ry
  obtain ⟨i1, r1, t1, _⟩ := I.tuple hp
  obtain ⟨i2, r2, t2, _⟩ := I.tuple hq
  obtain ⟨x1, x2, rfl, p1, p2⟩ := vals2 r1
  obtain ⟨y1, y2, rfl, q1, q2⟩ := vals2 r2
  obtain ⟨k1, rfl⟩ := p1
  obtain ⟨k3, rfl⟩ := q1
  cases p2
  cases q2
  obtain ⟨_, ya, va, ra, da⟩ := dk_of I.hok ea
  obtain ⟨_, yb, vb, rb, db⟩ := dk_of I.hok eb
  have hlen : va.length = vb.length := by rw [← ra.length, ← rb.length, p_len pa, p_len pb]
  have eqd : SeqAt.EqAt X.A.in1 s (.ref a) (.ref b) true := by
    by_cases e : a = b
    · subst e; exact SeqAt.EqAt.same _
    refine SeqAt.EqAt.of_refs e fun prog w E Q' h' => ?_
    refine PySem.W.keq_eq (knd := mixKind prog w) (r := true) ya yb (ka := va) (kb := vb) (dict_any (keys_int pa ra) da) (dict_any (keys_int pb rb) db) (by show X.A.units + 1 < cLine; omega) (fun _ => hits_of fun k x hx => ?_) (by rw [hlen]; simpa using h')
    obtain ⟨v1, hv1, rv1⟩ := kv_mem ra hx
    obtain ⟨j, hj⟩ := List.getElem?_of_mem hv1
    obtain ⟨e1, he1, hpe1⟩ := p_at pa hj
    obtain ⟨kv2, hkv2, hpe2⟩ := p_at' pb he1
    have nb := keys_nd pb nd
    have hv2 := val_mem nb (List.mem_of_getElem? hkv2)
    have ek : kv2.1 = k := hpe2.1.trans hpe1.1.symm
    rw [ek] at hv2
    have rr := rb.val k
    rw [hv2] at rr
    obtain ⟨y, hy, ry⟩ := rr.some_of
    exact ⟨y, hy, fd_eqAt I (by show X.A.units + 1 + 1 + 2 < cLine; omega) hpe1.2 hpe2.2 rv1 ry⟩
  have eqn : SeqAt.EqAt X.A.in1 s (.int n k1) (.int n k3) true := by
    have := SeqAt.EqAt.int_int (A := X.A.in1) (s := s) n k1 n k3
    rw [beq_self_eq_true] at this; exact this
  have := SeqAt.RcNeAt.tuples (A := X.A) (s := s) (l := p) (b := q) (e := fun _ => true) t1 t2 (by omega) (fun j h1 h2 => by
    match j, h1, h2 with
    | 0, _, _ => exact eqn
    | 1, _, _ => exact eqd)
  exact this X.prog X.w _ _ ⟨.bl false, H, I, rfl, hQ⟩
end
end Fld
namespace Fld
open PySem PySem.Spec PyProof.Rows L2
theorem strOk_txt {x : Str} {a b : Int} (h : txt (.str x) a b = true) : PyData.strOk x = true := by
  show x.cps.all (· < 0x110000) = true
  rw [← Array.all_toList]
  refine List.all_eq_true.mpr fun c hc => decide_eq_true ?_
  have h1 : (charCodes.all fun c => decide (c < 0x110000)) = true := by decide
  exact of_decide_eq_true (List.all_eq_true.mp h1 c (List.contains_iff_mem.mp (List.all_eq_true.mp (txt_all h) c hc)))
theorem lay_fds : ∀ {F : List Fd}, (∀ f ∈ F, FdOk f) → PyData.canLayAll0 (F.map fdat) = true
  | [], _ => by rw [List.map_nil, PyData.canLayAll0]
  | f :: F, h => by
    have hf := h f (List.mem_cons_self ..)
    have h1 : (fdat f).canLay0 = true := by
      show (PyData.tuple [.str f.1, .str f.2]).canLay0 = true
      simp [PyData.canLay0, PyData.canLayAll0, strOk_txt hf.n, strOk_txt hf.v]
    rw [List.map_cons, PyData.canLayAll0, h1, lay_fds fun x hx => h x (List.mem_cons_of_mem _ hx)]
    rfl
theorem fds_shaped {F : List Fd} (h : ∀ f ∈ F, FdOk f) (hl : F.length ≤ 40) : SeqAt.shaped (.tuple (F.map fdat)) = true := by
  have z := (sz_fds h hl).dp
  show (PyData.canLay0 (.tuple (F.map fdat)) && decide (PyData.depth (.tuple (F.map fdat)) ≤ 64)) = true
  rw [decide_eq_true (by omega), PyData.canLay0, lay_fds h]
  rfl
end Fld
/-! a law over work: data of the work, pop, what a state tells -/
namespace Fld
open PySem PySem.Spec PyProof.Rows L2
theorem sz_insD {i : Ins} (ok : i.Ok) : Sz 1500 1 i.dat := by
  have hi : ∀ n : Nat, n ≤ 9999 → Sz 1010 0 (.int (n : Nat)) := fun n h => sz_int (Nat.lt_of_le_of_lt (show n ≤ 9999 from h) (by decide +kernel))
  have hx : ∀ {x : Str}, txt (.str x) 0 40 = true → Sz 402 0 (.str x) := fun h => sz_txt (b := 40) h
  have hy : ∀ {x : Str}, txt (.str x) 1 20 = true → Sz 202 0 (.str x) := fun h => sz_txt (b := 20) h
  have f5 : Sz 52 0 (.str "fixed") := ⟨by decide, by decide, by decide⟩
  have e5 : Sz 52 0 (.str "entry") := ⟨by decide, by decide, by decide⟩
  have a5 : Sz 52 0 (.str "again") := ⟨by decide, by decide, by decide⟩
  have l5 : Sz 52 0 (.str "limit") := ⟨by decide, by decide, by decide⟩
  have n3 : Sz 52 0 (.str "new") := ⟨by decide, by decide, by decide⟩
  have two : ∀ {a b : PyData}, Sz 52 0 a → Sz 1010 0 b → Sz 1500 1 (.tuple [a, b]) := fun ha hb =>
    sz_tup' (k := 0) (by rw [okVAll, okVAll, okVAll, ha.ok, hb.ok]; rfl) (by rw [wVAll, wVAll, wVAll]; have := ha.w; have := hb.w; omega) (by rw [PyData.depthAll, PyData.depthAll, PyData.depthAll]; have := ha.dp; have := hb.dp; omega)
  have tri : ∀ {a b d : PyData}, Sz 52 0 a → Sz 1010 0 b → Sz 402 0 d → Sz 1500 1 (.tuple [a, b, d]) := fun ha hb hd =>
    sz_tup' (k := 0) (by rw [okVAll, okVAll, okVAll, okVAll, ha.ok, hb.ok, hd.ok]; rfl) (by rw [wVAll, wVAll, wVAll, wVAll]; have := ha.w; have := hb.w; have := hd.w; omega) (by rw [PyData.depthAll, PyData.depthAll, PyData.depthAll, PyData.depthAll]; have := ha.dp; have := hb.dp; have := hd.dp; omega)
  cases i with
  | again n => exact two a5 (hi n ok)
  | limit n => exact two l5 (hi n ok)
  | fixed n x => exact tri f5 (hi n ok.1) (hx ok.2)
  | entry n x => exact tri e5 (hi n ok.1) (hx ok.2)
  | new y x => exact tri n3 ((hy ok.1).mono (by omega) (by omega)) (hx ok.2)
def wdat (is : List Ins) : PyData := .list (is.map Ins.dat)
theorem sz_work {is : List Ins} (ok : ∀ i ∈ is, i.Ok) (hl : is.length ≤ 60) : Sz 100000 2 (wdat is) := by
  obtain ⟨h1, h2, h3⟩ := sz_many (b := 1500) (k := 1) (ds := is.map Ins.dat) fun d hd => by
    obtain ⟨i, hi, rfl⟩ := List.mem_map.mp hd
    exact sz_insD (ok i hi)
  rw [List.length_map] at h2
  have : (1500 + 2) * is.length ≤ (1500 + 2) * 60 := Nat.mul_le_mul_left _ hl
  exact sz_lst' h1 (by omega) h3
theorem lay_insD {i : Ins} (ok : i.Ok) : i.dat.canLay0 = true := by
  have S : ∀ x : Str, PyData.strOk x = true → (PyData.str x).canLay0 = true := fun x h => by rw [PyData.canLay0]; exact h
  have two : ∀ (a b : PyData), a.canLay0 = true → b.canLay0 = true → (PyData.tuple [a, b]).canLay0 = true := fun a b ha hb => by simp [PyData.canLay0, PyData.canLayAll0, ha, hb]
  have three : ∀ (a b c : PyData), a.canLay0 = true → b.canLay0 = true → c.canLay0 = true → (PyData.tuple [a, b, c]).canLay0 = true := fun a b c ha hb hc => by simp [PyData.canLay0, PyData.canLayAll0, ha, hb, hc]
  have I : ∀ n : Nat, (PyData.int (n : Nat)).canLay0 = true := fun n => by rw [PyData.canLay0]
  cases i with
  | again n => exact two _ _ (S _ (by decide +kernel)) (I n)
  | limit n => exact two _ _ (S _ (by decide +kernel)) (I n)
  | fixed n x => exact three _ _ _ (S _ (by decide +kernel)) (I n) (S _ (strOk_txt ok.2))
  | entry n x => exact three _ _ _ (S _ (by decide +kernel)) (I n) (S _ (strOk_txt ok.2))
  | new y x => exact three _ _ _ (S _ (by decide +kernel)) (S _ (strOk_txt ok.1)) (S _ (strOk_txt ok.2))
theorem wdat_shaped {is : List Ins} (ok : ∀ i ∈ is, i.Ok) (hl : is.length ≤ 60) : SeqAt.shaped (wdat is) = true := by
  have z := (sz_work ok hl).dp
  have h : ∀ {is : List Ins}, (∀ i ∈ is, i.Ok) → PyData.canLayAll0 (is.map Ins.dat) = true := by
    intro is
    induction is with
    | nil => intro _; rw [List.map_nil, PyData.canLayAll0]
    | cons i is ih =>
      intro h
      rw [List.map_cons, PyData.canLayAll0, lay_insD (h i (List.mem_cons_self ..)), ih fun x hx => h x (List.mem_cons_of_mem _ hx)]
      rfl
  show ((wdat is).canLay0 && decide ((wdat is).depth ≤ 64)) = true
  rw [decide_eq_true (by omega)]
  show ((PyData.list (is.map Ins.dat)).canLay0 && true) = true
  rw [PyData.canLay0, h ok]
  rfl
theorem InssV.dp {K : PySem.W.Frag} {H : Hp} : ∀ {xs : List V} {is : List Ins}, InssV K H xs is → DpAll K H xs (is.map Ins.dat)
  | _, _, .nil => .nil
  | _, _, .cons h t => by
    obtain ⟨a, rfl, s⟩ := h
    exact .cons (dp_ins s) (InssV.dp t)
theorem seqIx {k n : Nat} (h : k < n) : seqIndex? (k : Int) n = some k := by
  unfold seqIndex?
  have h1 : ¬ ((k : Int) < 0) := by omega
  have h2 : (decide (0 ≤ (k : Int)) && decide ((k : Int) < (n : Int))) = true := by
    rw [decide_eq_true (by omega), decide_eq_true (by omega)]; rfl
  simp only [h1, if_false, h2, if_true, Int.toNat_natCast]
theorem p_erase {α β : Type} {R : α → β → Prop} : ∀ {xs : List α} {ys : List β} {k : Nat}, Paired R xs ys → Paired R (xs.eraseIdx k) (ys.eraseIdx k)
  | _, _, _, .nil => .nil
  | _, _, 0, .cons _ t => t
  | _, _, _ + 1, .cons h t => .cons h (p_erase t)
theorem dle_pairs (n : Nat) {es : Ent} (h : es.length ≤ 60) : DLe (n + 3) (.list (pairD es)) := ⟨by unfold pairD; rw [List.length_map]; omega, fun d hd => by
  obtain ⟨e, he, rfl⟩ := List.mem_map.mp hd
  exact dle_2 (dle_int _ _) (dle_2 (dle_str _ _) (dle_str _ _))⟩
/-- the state behind the instructions, if any -/
def stO (F : List Fd) (r : Nat) (is : List Ins) : Option Tb := match runT F r (tb0 r) 0 is with | .ok t => some t | .error _ => none
theorem stO_run {F : List Fd} {r : Nat} {is : List Ins} {t : Tb} (h : stO F r is = some t) : runT F r (tb0 r) 0 is = .ok t := by
  unfold stO at h
  split at h
  · rename_i e; cases h; exact e
  · cases h
theorem runT_app {F : List Fd} {r : Nat} {i : Ins} : ∀ {is : List Ins} {t : Tb} {k : Nat},
    (match runT F r t k (is ++ [i]) with | .ok t => some t | .error _ => none) = (match runT F r t k is with | .ok t => stepT F r t i | .error _ => none)
  | [], t, k => by
    show (match runT F r t k [i] with | .ok t => some t | .error _ => none) = stepT F r t i
    unfold runT
    cases stepT F r t i <;> rfl
  | j :: is, t, k => by
    rw [List.cons_append]
    unfold runT
    cases stepT F r t j with
    | none => rfl
    | some u => exact runT_app
theorem stO_snoc {F : List Fd} {r : Nat} {is : List Ins} {i : Ins} : stO F r (is ++ [i]) = match stO F r is with | some t => stepT F r t i | none => none := by
  unfold stO
  rw [runT_app]
  cases runT F r (tb0 r) 0 is <;> rfl
/-- a state or None -/
def OSt (K : PySem.W.Frag) (H : Hp) (v : V) (r n : Nat) : Option Tb → Prop
  | none => v = .non
  | some t => StV K H v t ∧ TbOk r t ∧ t.made ≤ n
theorem OSt.ks {K : PySem.W.Frag} {H H' : Hp} {v : V} {r n : Nat} {o : Option Tb} (h : OSt K H v r n o) (k : KS H H') : OSt K H' v r n o := by
  cases o with
  | none => exact h
  | some t => exact ⟨h.1.ks k, h.2⟩
theorem penL {H : Hp} {p c L : Addr} {n : Nat} {o : HO} (h : Pen H p c n) (h1 : L ≠ p) (h2 : L ≠ c) : Pen (upd H L o) p c n := h.upd (Ne.symm h1) (Ne.symm h2)
end Fld
/-! list(enumerate(t)), t a tuple -/
namespace PySem
open Sem (wp)
open PySem.W (kdx_alive)
section
variable {prog : Program} {w : World} {A : Around} {E : Value → Shared → Prop} {s : Shared}
theorem meets_enumerate_new1 {v : Value} {o : Obj} {H : Heap → Prop} (B : Begins v o H) :
    Meets (Builtin.«enumerate.__new__» ⟨[.type "enumerate", v], []⟩) (fun _ R s => H s.heap ∧
      R (.ok (.ret (.ref (s.heap.push o).objs.size))) { s with heap := (s.heap.push o).push { cls := .type "enumerate", data := .fields #[.none, .bool false, .ref s.heap.objs.size, rawInt 0, .none, .none] } }) :=
  .of_wp fun prog w A R s h => by
    obtain ⟨hp, g, d, tk, os⟩ := s; obtain ⟨h1, h⟩ := h
    have hsub := sub_enumerate
    have q1 : ∀ {A' : Around} {E : Value → Shared → Prop} {Q : Value → Shared → Prop}, Q (.ref hp.objs.size) ⟨hp.push o, g, d, tk, os⟩ → wpAny (model prog w) A' (pyIter v) Q E ⟨hp, g, d, tk, os⟩ :=
      fun q => B.iter prog w _ _ ⟨hp, g, d, tk, os⟩ _ h1 q
    wp_walk using q1
    refine wpAny_stack_any fun st => wpAny_pure ?_
    split
    · rename_i c _ _ _ _ _
      cases (c == Value.type "enumerate")
      · wp_walk using q1
        exact ⟨_, rfl, h⟩
      · wp_walk using q1
        exact ⟨_, rfl, h⟩
    · wp_walk using q1
      exact ⟨_, rfl, h⟩
theorem call_enumerate_B {v : Value} {o : Obj} {H : Heap → Prop} (B : Begins v o H) {Q : Value → Shared → Prop} (h1 : H s.heap)
    (h : ∀ h', IsEnum h' (s.heap.objs.size + 1) s.heap.objs.size 0 .none → h'.get? s.heap.objs.size = some o → h'.objs.size = s.heap.objs.size + 2 →
      (∀ b o, s.heap.get? b = some o → h'.get? b = some o) → Q (.ref (s.heap.objs.size + 1)) { s with heap := h' }) :
    wpAny (model prog w) A (call (.type "enumerate") [v]) Q E s := by
  refine callType_new F.called_enumerate (by decide) (F.typeCall_enumerate_1 _) (F.newCall_enumerate_1 _) (fun obj => F.args_object_init_2 obj _) F.entry_enumerate_new
    (meets_enumerate_new1 B) ⟨h1, ?_⟩
  have hz : (s.heap.push o).objs.size = s.heap.objs.size + 1 := Heap.size_push ..
  show _ ∧ _
  rw [hz]
  have he : IsEnum ((s.heap.push o).push { cls := .type "enumerate", data := .fields #[.none, .bool false, .ref s.heap.objs.size, rawInt 0, .none, .none] }) (s.heap.objs.size + 1) s.heap.objs.size 0 .none := by
    have := Heap.get?_push_size (s.heap.push o) (o := { cls := .type "enumerate", data := .fields #[.none, .bool false, .ref s.heap.objs.size, rawInt 0, .none, .none] }) rfl
    rw [hz] at this; exact this
  refine ⟨⟨_, he, rfl⟩, h _ he (Heap.get?_push_of_some _ (Heap.get?_push_size _ B.free)) (by rw [Heap.size_push, hz]) fun b o x => Heap.get?_push_of_some _ (Heap.get?_push_of_some _ x)⟩
theorem enl_item_held {e it T : Addr} {fp : List Addr} {n i : Nat} {c : Int} {P : Nat → Value → Prop} {St : Nat → Heap → Prop} {old : Value} {f : Bool} {oT : Obj} {Q : Value → Shared → Prop}
    (D : Draws prog w A it fp n P St) (he : IsEnumHeld s.heap e it c old T f) (hT : s.heap.get? T = some oT) (hTe : T ≠ e) (hTi : T ≠ it) (hst : St i s.heap) (hlt : i < n) (hne : e ≠ it) (hef : e ∉ fp)
    (hQ : ∀ x h' tk, P i x → IsEnumHeld h' e it (c + 1) old T true → St (i + 1) h' →
      h'.get? s.heap.objs.size = some { cls := .type "tuple", data := .seq #[.int c tk, x] } → h'.objs.size = s.heap.objs.size + 1 →
      (∀ b o, b ≠ e → b ≠ it → s.heap.get? b = some o → h'.get? b = some o) → Q (.ref s.heap.objs.size) { s with heap := h', toks := tk + 1 }) :
    wpAny (model prog w) A (Builtin.«enumerate.__next__» ⟨[.ref e], []⟩) (fun fin s' => ∃ v, fin = .done (.ret v) ∧ Q v s') E s := by
  obtain ⟨hp, g, d, tk₀, os⟩ := s
  show wpAny _ _ (field (.ref e) 2 >>= _) _ _ _
  refine wpAny_bind (wpAny_field he rfl (x := .ref it) rfl ?_)
  refine wpAny_bind (D.item i _ _ _ hlt hst fun x h₁ tk hPx hit₁ hs₁ => ?_)
  replace hs₁ : Heap.SameBut it hp h₁ := hs₁
  have he₁ : IsEnumHeld h₁ e it c old T f := (hs₁.2 e hne).trans he
  show wpAny _ _ (field (.ref e) 3 >>= _) _ _ ⟨h₁, g, d, tk, os⟩
  refine wpAny_bind (wpAny_field he₁ rfl (x := rawInt c) rfl ?_)
  show wpAny _ _ (field (.ref e) 4 >>= _) _ _ ⟨h₁, g, d, tk, os⟩
  refine wpAny_bind (wpAny_field he₁ rfl (x := .none) rfl ?_)
  show wpAny _ _ (mkInt c >>= _) _ _ ⟨h₁, g, d, tk, os⟩
  refine wpAny_bind (wpAny_mkInt ?_)
  show wpAny _ _ (setField (.ref e) 3 (rawInt (c + 1)) >>= _) _ _ ⟨h₁, g, d, tk + 1, os⟩
  refine wpAny_bind (wpAny_setField_rec he₁ (by simp) fun h₂ he₂ hs₂ => ?_)
  replace hs₂ : Heap.SameBut e h₁ h₂ := hs₂
  replace he₂ : IsEnumHeld h₂ e it (c + 1) old T f := he₂
  show wpAny _ _ (setField (.ref e) 4 .none >>= _) _ _ ⟨h₂, g, d, tk + 1, os⟩
  refine wpAny_bind (wpAny_setField_rec he₂ (by simp) fun h₃ he₃ hs₃ => ?_)
  replace hs₃ : Heap.SameBut e h₂ h₃ := hs₃
  replace he₃ : IsEnumHeld h₃ e it (c + 1) old T f := he₃
  show wpAny _ _ (newTuple [.int c tk, x] >>= _) _ _ ⟨h₃, g, d, tk + 1, os⟩
  refine wpAny_bind (wpAny_newTuple ?_)
  have he₄ : IsEnumHeld (h₃.push { cls := .type "tuple", data := .seq #[.int c tk, x] }) e it (c + 1) old T f := Heap.get?_push_of_some _ he₃
  generalize hh₄ : h₃.push { cls := .type "tuple", data := .seq #[.int c tk, x] } = h₄ at he₄
  have hsz : h₃.objs.size = hp.objs.size := by rw [hs₃.1, hs₂.1, hs₁.1]
  have hel : e < hp.objs.size := Heap.lt_size he
  have ht₄ : h₄.get? hp.objs.size = some { cls := .type "tuple", data := .seq #[.int c tk, x] } := by rw [← hh₄, ← hsz]; exact Heap.get?_push_size _ rfl
  have hz₄ : h₄.objs.size = hp.objs.size + 1 := by rw [← hh₄, Heap.size_push, hsz]
  have hk₄ : ∀ b o, b ≠ e → b ≠ it → hp.get? b = some o → h₄.get? b = some o := fun b o hbe hbi hb => by
    rw [← hh₄]; exact Heap.get?_push_of_some _ (hs₃.extBut b o hbe (hs₂.extBut b o hbe (hs₁.extBut b o hbi hb)))
  have hit₄ : St (i + 1) h₄ := D.frame _ _ _ hit₁ fun b hb o y => by
    have hbe : b ≠ e := fun q => hef (q ▸ hb)
    rw [← hh₄]; exact Heap.get?_push_of_some _ (hs₃.extBut b o hbe (hs₂.extBut b o hbe y))
  show wpAny _ _ (Builtin.SmallTypes.ownedTupleIsFree (.ref e) >>= _) _ _ ⟨h₄, g, d, tk + 1, os⟩
  rw [hsz]
  clear hh₄ he₃ hs₃ he₂ hs₂ he₁ hs₁ hit₁ hsz h₃ h₂ h₁
  refine wpAny_bind (wpAny_tupleHeld_enum (s := ⟨h₄, g, d, tk + 1, os⟩) he₄ (hk₄ T oT hTe hTi hT) fun h₅ he₅ hs₅ => ?_)
  replace hs₅ : Heap.SameBut e h₄ h₅ := hs₅
  simp only [Bool.false_eq_true, if_false]
  refine wpAny_pure ⟨_, rfl, hQ x h₅ tk hPx he₅ ?_ (hs₅.extBut _ _ (Nat.ne_of_gt hel) ht₄) ?_ fun b o hbe hbi hb => hs₅.extBut b o hbe (hk₄ b o hbe hbi hb)⟩
  · exact D.frame _ _ _ hit₄ fun b hb o y => hs₅.extBut b o (fun q => hef (q ▸ hb)) y
  · show h₅.objs.size = hp.objs.size + 1
    rw [hs₅.1, hz₄]
/-- the count stands at i; what was given out last is held -/
def EnSt (h : Heap) (e it S : Addr) (i : Nat) : Prop :=
  (∃ old, IsEnum h e it (i : Nat) old) ∨ ∃ T old f oT, IsEnumHeld h e it (i : Nat) old T f ∧ h.get? T = some oT ∧ T ≠ e ∧ T ≠ it ∧ T ≠ S
theorem EnSt.keep {h h' : Heap} {e it S : Addr} {i : Nat} (x : EnSt h e it S i) (hk : ∀ b o, b ≠ S → h.get? b = some o → h'.get? b = some o) (he : e ≠ S) : EnSt h' e it S i := by
  rcases x with ⟨old, q⟩ | ⟨T, old, f, oT, q, hT, h1, h2, h3⟩
  · exact .inl ⟨old, hk _ _ he q⟩
  · exact .inr ⟨T, old, f, oT, hk _ _ he q, hk _ _ h3 hT, h1, h2, h3⟩
theorem enl_next {e it S : Addr} {fp : List Addr} {n i : Nat} {P : Nat → Value → Prop} {St : Nat → Heap → Prop} {Q : Option Value → Shared → Prop}
    (D : Draws prog w A.in1 it fp n P St) (he : EnSt s.heap e it S i) (hS : S < s.heap.objs.size) (hil : it < s.heap.objs.size) (hst : St i s.heap) (hlt : i < n) (hne : e ≠ it) (hef : e ∉ fp)
    (hQ : ∀ x h' tk, P i x → EnSt h' e it S (i + 1) → St (i + 1) h' →
      h'.get? s.heap.objs.size = some { cls := .type "tuple", data := .seq #[.int (i : Nat) tk, x] } → h'.objs.size = s.heap.objs.size + 1 →
      (∀ b o, b ≠ e → b ≠ it → s.heap.get? b = some o → h'.get? b = some o) → Q (some (.ref s.heap.objs.size)) { s with heap := h', toks := tk + 1 }) :
    wpAny (model prog w) A (pyNext (.ref e)) Q E s := by
  have ei : ((i + 1 : Nat) : Int) = (i : Int) + 1 := by omega
  rcases he with ⟨old, he⟩ | ⟨T, old, f, oT, he, hT, h1, h2, h3⟩
  · refine wpAny_pyNext_enum_itemC D he hst hlt hne hef fun x h' tk a b c d k q => hQ x h' tk a (.inr ⟨_, x, false, _, by rw [ei]; exact b, d, Nat.ne_of_gt (Heap.lt_size he), Nat.ne_of_gt hil, Nat.ne_of_gt hS⟩) c d k q
  · have hTy : s.TypeIs (.ref e) "enumerate" := ⟨_, he, rfl⟩
    unfold pyNext
    exact wpAny_bind (wpAny_attempt (wpAny_callSpecial?_slot (name := Str.ofString "__next__") hTy F.slot_enumerate_next
      (wpAny_call_entry F.slot_enumerate_next hTy F.entry_enumerate_next
        (enl_item_held D he hT h1 h2 hst hlt hne hef fun x h' tk a b c d k q => wpAny_pure (hQ x h' tk a (.inr ⟨T, old, true, oT, by rw [ei]; exact b, q T oT h1 h2 hT, h1, h2, h3⟩) c d k q)) (F.args_enumerate_next_1 _))))
theorem enl_done {e it S : Addr} {fp : List Addr} {n i : Nat} {P : Nat → Value → Prop} {St : Nat → Heap → Prop} {Q : Option Value → Shared → Prop}
    (D : Draws prog w A.in1 it fp n P St) (he : EnSt s.heap e it S i) (hst : St n s.heap)
    (hQ : ∀ h', Heap.ExtBut it s.heap h' → Q none { s with heap := h' }) : wpAny (model prog w) A (pyNext (.ref e)) Q E s := by
  rcases he with ⟨old, he⟩ | ⟨T, old, f, oT, he, hT, h1, h2, h3⟩
  · exact wpAny_pyNext_enum_endD D he hst hQ
  · have hTy : s.TypeIs (.ref e) "enumerate" := ⟨_, he, rfl⟩
    unfold pyNext
    refine wpAny_bind (wpAny_attempt (wpAny_callSpecial?_slot (name := Str.ofString "__next__") hTy F.slot_enumerate_next
      (wpAny_call_entry F.slot_enumerate_next hTy F.entry_enumerate_next ?_ (F.args_enumerate_next_1 _))))
    show wpAny _ _ (field (.ref e) 2 >>= _) _ _ _
    refine wpAny_bind (wpAny_field he rfl (x := .ref it) rfl ?_)
    refine wpAny_bind (D.done _ _ _ hst fun h' x he' hx' => ?_)
    obtain ⟨o, ho, hc⟩ := hx'
    refine wpAny_bind (wpAny_isInstance (T := "StopIteration") (b := true) ⟨o, ho, hc⟩ isSubtype_stop ?_)
    exact wpAny_pure (hQ _ he')
theorem enl_no_len : typeLookup (.type "enumerate") "__len__" = pure none := by rw [typeLookup_type, builtinLookup_eq_fast]; kernel_rfl
theorem enl_no_hint : typeLookup (.type "enumerate") "__length_hint__" = pure none := by rw [typeLookup_type, builtinLookup_eq_fast]; kernel_rfl
end
end PySem
namespace L2
open PySem PySem.Spec PyProof.Rows
/-- the pairs told so far -/
structure EnP (xs : List V) (H0 H : Hp) (q : Addr) (i : Nat) : Prop where
  ex : ∃ ts : List Addr, ts.length = i ∧ H q = some (.lst (ts.map V.ref)) ∧ ∀ (j : Nat) (t : Addr) (x : V), ts[j]? = some t → xs[j]? = some x → H t = some (.tup [.int (j : Nat), x])
  same : Same H0 H
theorem EnP.step {xs : List V} {H0 H : Hp} {q T : Addr} {i : Nat} {x : V} (h : EnP xs H0 H q i) (hq : H0 q = none) (hT : H T = none) (hx : xs[i]? = some x) {ys : List V} (hl : H q = some (.lst ys)) :
    EnP xs H0 (upd (upd H T (.tup [.int (i : Nat), x])) q (.lst (ys ++ [.ref T]))) q (i + 1) := by
  obtain ⟨⟨ts, hts, e1, hp⟩, hs⟩ := h
  rw [hl] at e1
  injection e1 with e1
  injection e1 with e1
  subst e1
  have hqT : q ≠ T := fun z => by rw [z, hT] at hl; cases hl
  refine ⟨⟨ts ++ [T], by rw [List.length_append, hts]; rfl, by rw [upd_same, List.map_append]; rfl, fun j t y hj hy => ?_⟩, fun b u hb => ?_⟩
  · rcases Nat.lt_trichotomy j ts.length with h1 | h1 | h1
    · rw [List.getElem?_append_left h1] at hj
      have e := hp j t y hj hy
      have n1 : t ≠ q := fun z => by rw [z, hl] at e; cases e
      have n2 : t ≠ T := fun z => by rw [z, hT] at e; cases e
      rw [upd_ne n1, upd_ne n2]; exact e
    · subst h1
      have et : T = t := by simpa using hj
      subst et
      rw [hts, hx] at hy
      injection hy with hy
      subst hy
      rw [upd_ne (Ne.symm hqT), upd_same, hts]
    · rw [List.getElem?_eq_none (by rw [List.length_append, List.length_singleton]; omega)] at hj
      cases hj
  · have n1 : b ≠ q := fun z => by rw [z, hq] at hb; cases hb
    have e := hs b u hb
    have n2 : b ≠ T := fun z => by rw [z, hT] at e; cases e
    show upd (upd H T _) q _ b = some u
    rw [upd_ne n1, upd_ne n2]; exact e
section
variable {X : Cx} {pins : List (Addr × Obj)} {σ : St} {A1 : Around}
theorem enl_loop {a e it q : Addr} {xs : List V} {H0 : Hp} {Rs : Result → Shared → Prop} (hh : A1.handled = none) (hne : e ≠ it) (hqe : e ≠ q) (hqi : it ≠ q) (hs : SqT X.K H0 a xs) (hia : a ≠ it) (hea : e ≠ a) (hn : xs.length ≤ 1000) (hq0 : H0 q = none)
    (hdone : ∀ H' s', Inv X pins σ H' s' → EnP xs H0 H' q xs.length → Rs (.ok (.ret .none)) s') :
    ∀ (k i : Nat) (H : Hp) (s : Shared), xs.length - i = k → i ≤ xs.length → Inv X pins σ H s → EnP xs H0 H q i → EnSt s.heap e it q i → s.heap.IsTupleIter it a i → (∀ b ∈ [e, it], FpOk X pins H b) →
      codeAny (model X.prog X.w) A1 (.builtin "list.extend.loop" ⟨[.ref q, .ref e, .none], []⟩) Rs s := by
  intro k
  induction k with
  | zero =>
    intro i H s hk hi I hP hE hit hf
    have hin : i = xs.length := by omega
    obtain ⟨its, rv, p, hz⟩ := I.tuple (hP.same.tup hs)
    have hl := rv.length
    refine codeAny_builtin PySem.F.entry_extend_loop ?_
    rw [Around.under_plainId PySem.F.plain_extend_loop _]
    show wpAny _ A1.in1 (pyNext (.ref e) >>= _) _ _ s
    have D := Draws.tuple (prog := X.prog) (w := X.w) (A := A1.in1.in1) hh it a hia its.toArray
    refine wpAny_bind (enl_done D hE (by rw [List.size_toArray, ← hl, ← hin]; exact ⟨hit, p⟩) fun h' eb => ?_)
    obtain ⟨f0, f1, f2, f3, f4, f5⟩ := hf it (by simp)
    refine wpAny_pure (hdone H _ (I.turned (t' := s.toks) (fun b o hb q => eb b o hb q) f0 f1 f3 f4 f5) ?_)
    rw [← hin]; exact hP
  | succ k ih =>
    intro i H s hk hi I hP hE hit hf
    have hlt : i < xs.length := by omega
    obtain ⟨its, rv, p, hz⟩ := I.tuple (hP.same.tup hs)
    have hl := rv.length
    obtain ⟨x, hx⟩ : ∃ x, xs[i]? = some x := ⟨xs[i], List.getElem?_eq_getElem hlt⟩
    obtain ⟨⟨ts, hts, hq, hpr⟩, hsm⟩ := id hP
    have hlq := (I.lstM hq)
    have hqs : q < s.heap.objs.size := by obtain ⟨z, its, kk, r2, hl, ee⟩ := hlq; exact Heap.lt_size ee
    have hils : it < s.heap.objs.size := by obtain ⟨_, q, _⟩ := hit; exact Heap.lt_size q
    have hes : e < s.heap.objs.size := by
      rcases hE with ⟨_, z⟩ | ⟨_, _, _, _, z, _⟩
      · exact Heap.lt_size z
      · exact Heap.lt_size z
    refine codeAny_builtin PySem.F.entry_extend_loop ?_
    rw [Around.under_plainId PySem.F.plain_extend_loop _]
    show wpAny _ A1.in1 (pyNext (.ref e) >>= _) _ _ s
    have D := Draws.tuple (prog := X.prog) (w := X.w) (A := A1.in1.in1) hh it a hia its.toArray
    have hef : e ∉ [it, a] := by simp [hne, hea]
    refine wpAny_bind (enl_next D hE hqs hils ⟨hit, p⟩ (by rw [List.size_toArray, ← hl]; exact hlt) hne hef fun u h' tk hu hE' hst' hT hsz hk' => ?_)
    have fr : H s.heap.objs.size = none := I.hok.fresh (Nat.le_refl _)
    obtain ⟨u2, hu2, ru⟩ := rv.get hx
    have eu : u2 = u := by
      have : its[i]? = some u := by simpa using hu
      rw [hu2] at this
      injection this
    subst eu
    have new : ObjOk X.prog X.w (upd H s.heap.objs.size (.tup [.int (i : Nat), x])) h' s.heap.objs.size (.tup [.int (i : Nat), x]) :=
      ⟨by show 2 ≤ sizeLine; decide, [.int i tk, u2], .cons ⟨_, rfl⟩ (.cons ru .nil), ⟨_, hT, rfl, _, rfl⟩⟩
    have I1 : Inv X pins σ (upd H s.heap.objs.size (.tup [.int (i : Nat), x])) { s with heap := h', toks := tk + 1 } :=
      I.turnedNew (t' := tk + 1) (ch := [e, it]) (fun b o hb q => hk' b o (fun z => hb (by simp [z])) (fun z => hb (by simp [z])) q) hf (Nat.le_refl _) new
    have hq1 : upd H s.heap.objs.size (.tup [.int (i : Nat), x]) q = some (.lst (ts.map V.ref)) := by rw [upd_ne (Nat.ne_of_lt hqs)]; exact hq
    obtain ⟨z, its3, kk, r2, hl3, ee⟩ := I1.lstM hq1
    have hl4 := r2.length
    rw [List.length_map] at hl4
    show wpAny _ A1.in1 (updateSeq q (·.push (.ref s.heap.objs.size)) >>= _) _ _ _
    refine wpAny_bind (wpAny_updateSeq ee rfl (wpAny_pure ⟨plainId_quiet PySem.F.plain_extend_loop _, ?_⟩) (by rw [List.size_toArray, sizeLine_eq]; omega) (by show (its3.toArray.push _).size ≤ sizeLine + 1; rw [Array.size_push, List.size_toArray, sizeLine_eq]; omega))
    have oth : ∀ b o, b ≠ q → h'.get? b = some o → (h'.update q (Obj.mapSeq (·.push (Value.ref s.heap.objs.size)))).get? b = some o := fun b o hb e => (Heap.get?_update_other _ _ (Ne.symm hb)).trans e
    refine ih (i + 1) _ _ (by omega) hlt (I1.lset (its' := its3 ++ [.ref s.heap.objs.size]) (t' := tk + 1) hq1 ee (by simp) (r2.append (.cons (show RelV (.ref s.heap.objs.size) (.ref s.heap.objs.size) from rfl) .nil)) (by rw [List.length_append, List.length_map, List.length_singleton, sizeLine_eq]; omega)) (hP.step hq0 fr hx hq) (hE'.keep oth hqe) (hst'.1.at fun o e => oth it o hqi e) fun b hb => ?_
    have hb1 : b ≠ q := by
      have e' : b = e ∨ b = it := by simpa using hb
      rcases e' with z | z
      · rw [z]; exact hqe
      · rw [z]; exact hqi
    have hb2 : b < s.heap.objs.size := by
      have e' : b = e ∨ b = it := by simpa using hb
      rcases e' with z | z
      · rw [z]; exact hes
      · rw [z]; exact hils
    exact ⟨by rw [upd_ne hb1, upd_ne (Nat.ne_of_lt hb2)]; exact (hf b hb).1, (hf b hb).2⟩
/-- nothing is said of the length -/
theorem enl_hint {M : Model} {A : Around} {E : Value → Shared → Prop} {Q : Bool → Shared → Prop} {s : Shared} {e : Addr} (hT : s.TypeIs (.ref e) "enumerate") (h : Q true s) :
    wpAny M A (Builtin.List.listLengthHint (.ref e)) Q E s := by
  unfold Builtin.List.listLengthHint
  refine wpAny_bind (wpAny_specialOf hT enl_no_len ?_)
  show wpAny _ A (specialOf (Value.ref e) (Str.ofString "__length_hint__") >>= _) _ _ _
  refine wpAny_bind (wpAny_specialOf hT enl_no_hint ?_)
  exact wpAny_pure h
/-- list(enumerate(t)) -/
def tEnL (K : PySem.W.Frag) (ta : TA) : TE := fun σ H Q => ta σ H fun vs H1 => ∃ a xs, vs = [.ref a] ∧ SqT K H1 a xs ∧ xs.length ≤ 1000 ∧ ∀ q H', H1 q = none → EnP xs H1 H' q xs.length → Q (.ref q) H'
end
theorem pe_enL {X : Cx} {e : Expr} {ta : TA} {p1 p2 p3 p4 : Pos} (ha : PA X [e] ta) (hgl : Gl X "list") (hml : X.mg "list" = none) (hge : Gl X "enumerate") (hme : X.mg "enumerate" = none) (hc : X.calm = true)
    (h1 : starEach [.Call (.Name "enumerate" p2) [e] [] p3] X.env = [(false, eval (.Call (.Name "enumerate" p2) [e] [] p3) X.env)] := by rfl) (h2 : starEach [e] X.env = [(false, eval e X.env)] := by rfl) :
    PE X (.Call (.Name "list" p1) [.Call (.Name "enumerate" p2) [e] [] p3] [] p4) (tEnL X.K ta) := by
  refine ⟨fun pins s σ H Q I h => wpAny_Call_Name_kw (ld_blt I hgl hml PyProof.Rows.boot_list (PyProof.Rows.callWith_type1 ?_ h1 rfl))⟩
  rw [h1]
  refine Calls.spliced_cons ?_
  refine wpAny_Call_Name_kw (ld_blt I hge hme boot_enumerate (PyProof.Rows.callWith_type1 (thn (ha.run p3 pins s σ H _ I h) fun us s1 ⟨vs, H1, I1, r1, q1⟩ => ?_) h2 rfl))
  obtain ⟨a, xs, ex, hs, hn, q⟩ := q1
  subst ex
  cases r1 with
  | cons r rr =>
    cases rr
    cases r
    obtain ⟨its, rv, p, hz⟩ := I1.tuple hs
    have hp : s1.heap.IsTuple a its.toArray := p
    have hal : a < s1.heap.objs.size := by obtain ⟨_, z, _⟩ := hp; exact Heap.lt_size z
    refine call_enumerate_B (begins_tuple a its.toArray) hp fun h' he hit hsz hk => ?_
    refine Calls.spliced_nil ?_
    have I2 : Inv X pins σ H1 { s1 with heap := h' } := I1.kept (t' := s1.toks) hk
    have fp : ∀ b ∈ [s1.heap.objs.size + 1, s1.heap.objs.size], FpOk X pins H1 b := fun b hb => by
      have e' : b = s1.heap.objs.size + 1 ∨ b = s1.heap.objs.size := by simpa using hb
      have hle : s1.heap.objs.size ≤ b := by
        rcases e' with z | z
        · rw [z]; exact Nat.le_add_right _ _
        · rw [z]; exact Nat.le_refl _
      exact I1.fpOk hle (I1.hok.fresh hle)
    generalize hS1 : ({ s1 with heap := h' } : Shared) = s2 at I2 ⊢
    have e2 : s2.heap = h' := by rw [← hS1]
    rw [← e2] at he hit hsz
    generalize s1.heap.objs.size = it at he hit hsz fp hal
    clear hS1 e2 hk I1 h
    -- list(..)
    refine callType_codes (Q₁ := fun obj s₁ => obj = .ref s2.heap.objs.size ∧ s₁ = { s2 with heap := s2.heap.push { cls := .type "list", data := .seq #[] } }) PySem.F.called_list (PySem.F.typeCall_list_1 _) PySem.F.entry_list_init
      (code_list_new _ ⟨rfl, rfl⟩) fun obj s₁ h₁ => ?_
    obtain ⟨rfl, rfl⟩ := h₁
    have hS : (s2.heap.push { cls := .type "list", data := .seq #[] }).get? s2.heap.objs.size = some { cls := .type "list", data := .seq #[] } := Heap.get?_push_size _ rfl
    refine ⟨⟨_, hS, rfl⟩, PySem.F.args_list_init_2 _ _, ?_⟩
    have fr : H1 s2.heap.objs.size = none := I2.hok.fresh (Nat.le_refl _)
    have I3 : Inv X pins σ (upd H1 s2.heap.objs.size (.lst [])) { s2 with heap := s2.heap.push { cls := .type "list", data := .seq #[] } } := I2.lnew (its := []) (t' := s2.toks) .nil (Nat.zero_le _)
    show wpAny _ _ (do let old ← Builtin.List.listItems (.ref s2.heap.objs.size); Builtin.List.listUpdate (.ref s2.heap.objs.size) (fun _ => #[]); letGo old.toList.reverse; Builtin.List.listExtendWith (.ref s2.heap.objs.size) (.ref (it + 1)) .none) _ _ _
    refine wpAny_bind ?_
    unfold Builtin.List.listItems
    refine wpAny_bind (wpAny_seqItems hS rfl (wpAny_pure ?_))
    show wpAny _ _ (updateSeq s2.heap.objs.size (fun _ => #[]) >>= fun _ => letGo (#[] : Array Value).toList.reverse >>= fun _ => Builtin.List.listExtendWith (.ref s2.heap.objs.size) (.ref (it + 1)) .none) _ _ _
    refine wpAny_bind (wpAny_updateSeq hS rfl ?_)
    have I4 := I3.lset (f := fun _ => #[]) (its := []) (its' := []) (ys := []) (t' := s2.toks) upd_same hS rfl .nil (Nat.zero_le _)
    rw [upd_upd] at I4
    refine wpAny_bind (wpAny_letGo ?_)
    have hS4 := Heap.get?_update_self (Obj.mapSeq (fun _ => (#[] : Array Value))) hS rfl
    have oth : ∀ b o, b ≠ s2.heap.objs.size → s2.heap.get? b = some o → ((s2.heap.push { cls := .type "list", data := .seq #[] }).update s2.heap.objs.size (Obj.mapSeq (fun _ => (#[] : Array Value)))).get? b = some o :=
      fun b o hb e => (Heap.get?_update_other _ _ (Ne.symm hb)).trans (Heap.get?_push_of_some _ e)
    have hie : it + 1 ≠ s2.heap.objs.size := Nat.ne_of_lt (Heap.lt_size he)
    have hii : it ≠ s2.heap.objs.size := Nat.ne_of_lt (Heap.lt_size hit)
    have he4 := oth _ _ hie he
    have hit4 := oth _ _ hii hit
    have hh : X.A.handled = none := I2.ok.hd hc
    have key : ∀ (s5 : Shared), Inv X pins σ (upd H1 s2.heap.objs.size (.lst [])) s5 → IsEnum s5.heap (it + 1) it 0 .none → s5.heap.get? it = some { cls := .type "tuple_iterator", data := .fields #[.ref a, .int 0 0] } →
        codeAny (model X.prog X.w) X.A.in1 (.builtin "list.extend.loop" ⟨[.ref s2.heap.objs.size, .ref (it + 1), .none], []⟩) (wants (fun r s₂ => r = .none ∧ EP X pins σ Q (.ref s2.heap.objs.size) s₂) X.xe) s5 := fun s5 I5 he5 hit5 =>
      enl_loop (X := X) (pins := pins) (σ := σ) (A1 := X.A.in1) (a := a) (e := it + 1) (it := it) (q := s2.heap.objs.size) (xs := xs) (H0 := H1) hh (Nat.succ_ne_self _) hie hii hs (Nat.ne_of_lt hal) (Nat.ne_of_gt (Nat.lt_succ_of_lt hal)) hn fr
        (fun H' s' I' hP => ⟨rfl, .ref s2.heap.objs.size, H', I', rfl, q _ H' fr hP⟩) xs.length 0 _ s5 (Nat.sub_zero _) (Nat.zero_le _) I5
        ⟨⟨[], rfl, upd_same, fun j t x hj => by simp at hj⟩, fun b u hb => by
          have n1 : b ≠ s2.heap.objs.size := fun z => by rw [z, fr] at hb; cases hb
          rw [upd_ne n1]; exact hb⟩ (.inl ⟨_, he5⟩) ⟨_, hit5, rfl, rfl⟩ fun b hb => ⟨by
            have n1 : b ≠ s2.heap.objs.size := by
              have e' : b = it + 1 ∨ b = it := by simpa using hb
              rcases e' with z | z
              · rw [z]; exact hie
              · rw [z]; exact hii
            rw [upd_ne n1]; exact (fp b hb).1, (fp b hb).2⟩
    unfold Builtin.List.listExtendWith
    refine wpAny_bind (wpAny_typeOf (T := "enumerate") ⟨_, he4, rfl⟩ ?_)
    have h1 : Builtin.List.listSameRef (.ref s2.heap.objs.size) (.ref (it + 1)) = false := by simp [Builtin.List.listSameRef, Ne.symm hie]
    have h2 : (Value.type "enumerate" == Value.type "list") = false := by decide
    have h3 : (Value.type "enumerate" == Value.type "tuple") = false := by decide
    simp only [h1, h2, h3, Bool.or_false, Bool.false_eq_true, if_false]
    refine wpAny_bind (wpAny_pyIter_enum he4 ?_)
    refine wpAny_bind (wpAny_holding (enl_hint ⟨_, he4, rfl⟩ ?_))
    refine wpAny_ite_split (fun _ => ?_) (fun _ => wpAny_pure ⟨plainId_quiet PySem.F.plain_extend_loop _, key _ I4 he4 hit4⟩)
    refine wpAny_bind (wpAny_rule ?_)
    refine wpAny_bind ?_
    show wpAny _ _ (updateSeq s2.heap.objs.size (·.push .none) >>= fun _ => updateSeq s2.heap.objs.size (·.pop)) _ _ _
    refine wpAny_bind (wpAny_updateSeq hS4 rfl ?_)
    have I5 := I4.lset (f := (·.push Value.none)) (its' := [Value.none]) (ys := [.non]) (t' := s2.toks) upd_same hS4 (by simp) (.cons rfl .nil) (by rw [List.length_singleton, sizeLine_eq]; decide)
    have hS5 := Heap.get?_update_self (Obj.mapSeq (·.push Value.none)) hS4 rfl
    refine wpAny_updateSeq hS5 rfl ?_ (by show 1 ≤ sizeLine; rw [sizeLine_eq]; decide) (by show 0 ≤ sizeLine + 1; exact Nat.zero_le _)
    have I6 := I5.lset (f := (·.pop)) (its' := []) (ys := []) (t' := s2.toks) upd_same hS5 (by rfl) .nil (Nat.zero_le _)
    rw [upd_upd, upd_upd] at I6
    have oth2 : ∀ {h : Heap} {f : Array Value → Array Value} {b : Addr} {o : Obj}, b ≠ s2.heap.objs.size → h.get? b = some o → (h.update s2.heap.objs.size (Obj.mapSeq f)).get? b = some o := fun hb e => (Heap.get?_update_other _ _ (Ne.symm hb)).trans e
    exact wpAny_pure ⟨plainId_quiet PySem.F.plain_extend_loop _, key _ I6 (oth2 hie (oth2 hie he4)) (oth2 hii (oth2 hii hit4))⟩
end L2
/-! what an instruction, an answer is, over data of any kind -/
namespace Fld
open PySem PySem.Spec PyProof.Rows L2
def dIns : PyData → Bool
  | .tuple [k, n] => [("again" : Str), "limit"].any (fun z => isS k z) && dBtw n 0 9999
  | .tuple [k, n, x] => if isS k "new" then dTxt n 1 20 && dTxt x 0 40 else [("fixed" : Str), "entry"].any (fun z => isS k z) && (dBtw n 0 9999 && dTxt x 0 40)
  | _ => false
def dAns : PyData → Bool
  | .tuple [k, n] => if isS k "received" then dBtw n 1 9999 else [("done" : Str), "cancelled"].any (fun z => isS k z) && dBtw n 0 20
  | _ => false
theorem dIns_no {d : PyData} (e : subT (tyD d) "tuple" = false) : dIns d = false := by
  rw [sub_tup] at e
  cases d <;> first | rfl | cases e
theorem dAns_no {d : PyData} (e : subT (tyD d) "tuple" = false) : dAns d = false := by
  rw [sub_tup] at e
  cases d <;> first | rfl | cases e
theorem dIns_ne {ds : List PyData} (h2 : ds.length ≠ 2) (h3 : ds.length ≠ 3) : dIns (.tuple ds) = false := by
  match ds, h2, h3 with
  | [], _, _ => rfl
  | [_], _, _ => rfl
  | [_, _], h, _ => exact absurd rfl h
  | [_, _, _], _, h => exact absurd rfl h
  | _ :: _ :: _ :: _ :: _, _, _ => rfl
theorem dAns_ne {ds : List PyData} (h2 : ds.length ≠ 2) : dAns (.tuple ds) = false := by
  match ds, h2 with
  | [], _ => rfl
  | [_], _ => rfl
  | [_, _], h => exact absurd rfl h
  | _ :: _ :: _ :: _, _ => rfl
theorem any2 {k : PyData} {a b : Str} (e : [a, b].any (fun z => isS k z) = true) : k = .str a ∨ k = .str b := by
  have e' : (isS k a || (isS k b || false)) = true := e
  rw [Bool.or_false, Bool.or_eq_true] at e'
  rcases e' with h | h
  · exact .inl (isS_str h)
  · exact .inr (isS_str h)
theorem ins_of {K : PySem.W.Frag} {H : Hp} {v : V} {d : PyData} (h : Dv K H v d) (e : dIns d = true) : ∃ i : Ins, InsV K H v i ∧ i.Ok := by
  match d, h, e with
  | .tuple [k, n], h, e =>
    obtain ⟨a, xs, rfl, hs, ha⟩ := h.sTup
    obtain ⟨x0, x1, d0, d1, rfl, e2, h0, h1⟩ := len2 ha (by rw [ha.len]; rfl)
    injection e2 with e3 e4
    injection e4 with e4 _
    subst e3 e4
    have e' : ([("again" : Str), "limit"].any (fun z => isS k z) && dBtw n 0 9999) = true := e
    rw [Bool.and_eq_true] at e'
    obtain ⟨i, rfl, i0, i1⟩ := btw_int e'.2
    obtain ⟨m, rfl⟩ : ∃ m : Nat, i = (m : Int) := ⟨i.toNat, by omega⟩
    have := h1.sInt; subst this
    rcases any2 e'.1 with rfl | rfl
    · have := h0.sStr; subst this
      exact ⟨.again m, ⟨a, rfl, hs⟩, by show m ≤ 9999; omega⟩
    · have := h0.sStr; subst this
      exact ⟨.limit m, ⟨a, rfl, hs⟩, by show m ≤ 9999; omega⟩
  | .tuple [k, n, x], h, e =>
    obtain ⟨a, xs, rfl, hs, ha⟩ := h.sTup
    obtain ⟨x0, x1, x2, d0, d1, d2, rfl, e2, h0, h1, h2⟩ := len3 ha (by rw [ha.len]; rfl)
    injection e2 with e3 e4
    injection e4 with e4 e5
    injection e5 with e5 _
    subst e3 e4 e5
    have e' : (if isS k "new" = true then dTxt n 1 20 && dTxt x 0 40 else [("fixed" : Str), "entry"].any (fun z => isS k z) && (dBtw n 0 9999 && dTxt x 0 40)) = true := e
    by_cases c : isS k "new" = true
    · rw [if_pos c, Bool.and_eq_true] at e'
      obtain ⟨y, rfl, hy⟩ := txt_str e'.1
      obtain ⟨z, rfl, hz⟩ := txt_str e'.2
      have := isS_str c; subst this
      have := h0.sStr; subst this
      have := h1.sStr; subst this
      have := h2.sStr; subst this
      exact ⟨.new y z, ⟨a, rfl, hs⟩, hy, hz⟩
    · rw [if_neg c, Bool.and_eq_true, Bool.and_eq_true] at e'
      obtain ⟨i, rfl, i0, i1⟩ := btw_int e'.2.1
      obtain ⟨z, rfl, hz⟩ := txt_str e'.2.2
      obtain ⟨m, rfl⟩ : ∃ m : Nat, i = (m : Int) := ⟨i.toNat, by omega⟩
      have := h1.sInt; subst this
      have := h2.sStr; subst this
      rcases any2 e'.1 with rfl | rfl
      · have := h0.sStr; subst this
        exact ⟨.fixed m z, ⟨a, rfl, hs⟩, by omega, hz⟩
      · have := h0.sStr; subst this
        exact ⟨.entry m z, ⟨a, rfl, hs⟩, by omega, hz⟩
theorem ans_of {K : PySem.W.Frag} {H : Hp} {v : V} {d : PyData} (h : Dv K H v d) (e : dAns d = true) : ∃ i : Ans, AnsV K H v i ∧ i.Ok := by
  match d, h, e with
  | .tuple [k, n], h, e =>
    obtain ⟨a, xs, rfl, hs, ha⟩ := h.sTup
    obtain ⟨x0, x1, d0, d1, rfl, e2, h0, h1⟩ := len2 ha (by rw [ha.len]; rfl)
    injection e2 with e3 e4
    injection e4 with e4 _
    subst e3 e4
    have e' : (if isS k "received" = true then dBtw n 1 9999 else [("done" : Str), "cancelled"].any (fun z => isS k z) && dBtw n 0 20) = true := e
    by_cases c : isS k "received" = true
    · rw [if_pos c] at e'
      obtain ⟨i, rfl, i0, i1⟩ := btw_int e'
      obtain ⟨m, rfl⟩ : ∃ m : Nat, i = (m : Int) := ⟨i.toNat, by omega⟩
      have := h1.sInt; subst this
      have := isS_str c; subst this
      have := h0.sStr; subst this
      exact ⟨.received m, ⟨a, rfl, hs⟩, by omega, by omega⟩
    · rw [if_neg c, Bool.and_eq_true] at e'
      obtain ⟨i, rfl, i0, i1⟩ := btw_int e'.2
      obtain ⟨m, rfl⟩ : ∃ m : Nat, i = (m : Int) := ⟨i.toNat, by omega⟩
      have := h1.sInt; subst this
      rcases any2 e'.1 with rfl | rfl
      · have := h0.sStr; subst this
        exact ⟨.done m, ⟨a, rfl, hs⟩, by show m ≤ 20; omega⟩
      · have := h0.sStr; subst this
        exact ⟨.cancelled m, ⟨a, rfl, hs⟩, by show m ≤ 20; omega⟩
/-- refused, or not, by the way -/
def sp_refused2 (K : PySem.W.Frag) : Sp := fun vs H Q _ => ∃ (way : Int) (v : V) (d : PyData) (b : Bool), vs = [.int way, v] ∧ ((way = 0 ∧ b = !dIns d) ∨ (way = 1 ∧ b = !dAns d)) ∧ Dv K H v d ∧ Lim d ∧ ∀ H', Same H H' → Q (.bl b) H'
end Fld
namespace Fld
open PySem PySem.Spec PyProof.Rows L2
theorem merge2 {x y : V} : mergeK [] [((.inl 0 : Key), x), (.inl 1, y)] = [((.inl 0 : Key), x), (.inl 1, y)] := rfl
theorem merge3 {x y z : V} : mergeK [] [((.inl 0 : Key), x), (.inl 1, y), (.inl 2, z)] = [((.inl 0 : Key), x), (.inl 1, y), (.inl 2, z)] := rfl
/-- dict(list(enumerate(t))): of two, of three items -/
theorem dic_of {K : PySem.W.Frag} {S : List Addr} {H0 H : Hp} {q : Addr} {xs : List V} {ds : List PyData} (h : EnP xs H0 H q xs.length) (ha : DvAll K (OffS S H0) xs ds) (hS : Hid S H0) (hz : SzAll 0 ds) (hw : wVAll ds ≤ 1500) (h23 : ds.length = 2 ∨ ds.length = 3) :
    ∃ (ts : List Addr) (kvs : List (Key × V)) (d : PyData), H q = some (.lst (ts.map V.ref)) ∧ Paired (fun p kv => SqT K H p [kV kv.1, kv.2]) ts kvs ∧ Sz 5000 1 d ∧ ∀ p, H p = none → Dv K (OffS S (upd H p (.dK (mergeK [] kvs)))) (.ref p) d := by
  obtain ⟨⟨ts, hts, hq, hp⟩, hs⟩ := h
  have ha' := ha.keep hs.off
  have hS' := hS.keep hs
  have zi : ∀ d ∈ ds, Sz (wV d) 0 d := fun d hd => ⟨okVAll_mem hz.1 hd, Nat.le_refl _, Nat.le_trans (depthAll_mem hd) hz.2⟩
  have hl := ha.len
  rcases h23 with e | e
  · obtain ⟨x0, x1, d0, d1, rfl, rfl, h0, h1⟩ := len2 ha' (by omega)
    match ts, hts, hq, hp with
    | [t0, t1], _, hq, hp =>
      rw [wVAll, wVAll, wVAll] at hw
      refine ⟨[t0, t1], [((.inl 0 : Key), x0), (.inl 1, x1)], .dict [(.int 0, d0), (.int 1, d1)], hq, .cons (SqT.of (hp 0 t0 x0 rfl rfl)) (.cons (SqT.of (hp 1 t1 x1 rfl rfl)) .nil), ?_, fun p hpn => ?_⟩
      · refine ⟨?_, ?_, ?_⟩
        · rw [okV, okVKv, okVKv, okVKv, (zi d0 (by simp)).ok, (zi d1 (by simp)).ok]; decide
        · rw [wV, wVKv, wVKv, wVKv, wV, wV]; omega
        · have := (zi d0 (by simp)).dp; have := (zi d1 (by simp)).dp
          simp only [PyData.depth, PyData.depthKv]; omega
      · rw [merge2]
        have s := Same.new (o := .dK [((.inl 0 : Key), x0), (.inl 1, x1)]) hpn
        exact .dic (off_new hpn hS') rfl ((DvAll.cons h0 (.cons h1 .nil)).keep s.off)
  · obtain ⟨x0, x1, x2, d0, d1, d2, rfl, rfl, h0, h1, h2⟩ := len3 ha' (by omega)
    match ts, hts, hq, hp with
    | [t0, t1, t2], _, hq, hp =>
      rw [wVAll, wVAll, wVAll, wVAll] at hw
      refine ⟨[t0, t1, t2], [((.inl 0 : Key), x0), (.inl 1, x1), (.inl 2, x2)], .dict [(.int 0, d0), (.int 1, d1), (.int 2, d2)], hq, .cons (SqT.of (hp 0 t0 x0 rfl rfl)) (.cons (SqT.of (hp 1 t1 x1 rfl rfl)) (.cons (SqT.of (hp 2 t2 x2 rfl rfl)) .nil)), ?_, fun p hpn => ?_⟩
      · refine ⟨?_, ?_, ?_⟩
        · rw [okV, okVKv, okVKv, okVKv, okVKv, (zi d0 (by simp)).ok, (zi d1 (by simp)).ok, (zi d2 (by simp)).ok]; decide
        · rw [wV, wVKv, wVKv, wVKv, wVKv, wV, wV, wV]; omega
        · have := (zi d0 (by simp)).dp; have := (zi d1 (by simp)).dp; have := (zi d2 (by simp)).dp
          simp only [PyData.depth, PyData.depthKv]; omega
      · rw [merge3]
        have s := Same.new (o := .dK [((.inl 0 : Key), x0), (.inl 1, x1), (.inl 2, x2)]) hpn
        exact .dic (off_new hpn hS') rfl ((DvAll.cons h0 (.cons h1 (.cons h2 .nil))).keep s.off)
end Fld
/-! a kept error that has a dict: isinstance, its attribute; count and index of Booleans -/
namespace PySem.W
open PySem PySem.Spec PySem.Calls PyProof.Rows
/-- what is written of the class decides `__class__`, whatever the instance's own dict holds -/
theorem own_class_of {K : Frag} {D : Addr} {o : Option Obj} (C : L2.ExcC K D) : findObj K D o "__class__" = some (.bind (.builtin "getset_descriptor.__get__") (.builtin "object.__class__")) := by
  obtain ⟨body, hb, _⟩ := any_some C.hd
  unfold findObj
  simp only [hb, C.ha, Option.bind_some]
  simp [C.hn, C.ht]
/-- error.__class__ is the class -/
theorem own_class_get {P : Program} {w : World} {B : Around} {F : Value → Shared → Prop} {t : Shared} {K : Frag} {e D : Addr} {oe : Obj} {o : Option Obj} {R : Option Value → Shared → Prop} (C : L2.ExcC K D) (hK : K.In t.heap) (J : InstAt t.heap e oe D o) (q : R (some (.ref D)) { t with toks := t.toks + 1 }) :
    wpAny (model P w) B (getAttr? (.ref e) "__class__") R F t := by
  obtain ⟨hp, gs, ds, tk, os⟩ := t
  dsimp only at hK J q ⊢
  have ty := J.type (M := model P w)
  have isB : Looks (model P w) hp (isInstance (.ref e) (.type "BaseException")) true := ty.andThen (looks_subIn hK C.hs)
  have noG := looks_findIn (M := model P w) hK C.hk
  have atA := looks_findIn (M := model P w) hK C.hg
  have cls := looks_find (M := model P w) hK J (own_class_of C)
  have off : (onTheHeap (Value.ref D) && (Value.builtin "BaseException.__getattribute__" == Value.builtin "object.__getattribute__")) = false := by
    rw [show (Value.builtin "BaseException.__getattribute__" == Value.builtin "object.__getattribute__") = false by decide +kernel, Bool.and_false]
  unfold getAttr? getAttrBy? getAttrBy; apply wpAny_bind; apply wpAny_mkText; apply wpAny_bind; apply wpAny_attempt; apply wpAny_holding; apply wpAny_bind
  refine ty.at (wpAny_bind (atA.at (?_ : wpAny _ _ (if (onTheHeap (Value.ref D) && (Value.builtin "BaseException.__getattribute__" == Value.builtin "object.__getattribute__")) = true then _ else _) _ _ _)))
  rw [if_neg (by rw [off]; decide)]; unfold getAttrByItsOwn hookBefore; apply wpAny_bind
  rw [if_pos (show onTheHeap (Value.ref D) = true from rfl)]; refine noG.at ?_; apply wpAny_bind; apply wpAny_attempt; apply wpAny_holding
  unfold callGetattribute boundAndCalled; rw [if_neg (show ¬ ((false && onTheHeap (Value.builtin "BaseException.__getattribute__")) = true) from Bool.false_ne_true), PySem.F.excAttr_ValueError.ga.bind (.ref e)]; apply wpAny_bind; apply wpAny_pure
  refine (?_ : wpAny (model P w) _ (call (.builtin "BaseException.__getattribute__") [.ref e, .str "__class__" tk]) _ _ _)
  apply wpAny_call; refine codeAny_call_builtin PySem.F.excAttr_ValueError.ga.plain PySem.F.entry_bexc_ga ?_
  refine @check_slot (model P w) _ _ ⟨hp, gs, ds, tk + 1, os⟩ "BaseException.__getattribute__" "BaseException" "__getattribute__" (.ref e) [.str "__class__" tk] [] _ ?_ ?_ isB (PySem.F.args_bexc_ga (.ref e) (.str "__class__" tk)) ?_
  · decide +kernel
  · decide +kernel
  unfold Builtin.«object.__getattribute__»; apply wpAny_bind
  refine wpAny_of_eq (a := ((Value.ref e : Value), [Value.str "__class__" tk])) (by first | rfl | (simp only [slotArgs]; rfl)) (wpAny_bind (wpAny_pure (wpAny_bind (ty.at (wpAny_bind (cls.at ?_))))))
  refine (?_ : wpAny (model P w) _ (holding [Value.builtin "object.__class__"] (call (.builtin "getset_descriptor.__get__") [.builtin "object.__class__", .ref e, .ref D]) >>= ret) _ _ _)
  apply wpAny_bind; apply wpAny_holding; refine wpAny_call (class_get (s := ⟨hp, gs, ds, tk + 1, os⟩) (ox := oe) (od := o) hK J C.hm (wpAny_pure ?_))
  refine (?_ : wpAny (model P w) _ (handedOut (.ref D)) _ _ _)
  rw [handedOut_of (v := .ref D) rfl]
  first
    | exact wpAny_pure (wpAny_pure q)
    | exact wpAny_pure q
    | exact wpAny_pure (wpAny_bind (wpAny_pure (wpAny_pure q)))
/-- what isinstance asks of an error with or without a dict -/
theorem kit_err {K : Frag} {e D : Addr} {oe : Obj} {o : Option Obj} (C : L2.ExcC K D) : KitX K (.ref e) (.ref D) (fun h => InstAt h e oe D o) := by
  have isCls : ∃ c d cd sl, K.lookup D = some ⟨c, d, .cls cd, sl⟩ := by
    obtain ⟨cd, hc, _⟩ := any_some C.hd
    unfold clsIn at hc
    split at hc
    · rename_i c' d' cd' sl' h; exact ⟨c', d', cd', sl', h⟩
    · cases hc
  obtain ⟨c, d, cd, sl, hD⟩ := isCls
  refine ⟨fun _ _ _ J => J.type, fun _ _ hK _ => fun A' Q' E' s' k q => ?_, fun h tp dd its n sl' hK htp => ?_, fun hK J q => own_class_get C hK J q⟩
  · unfold isType loadHead
    exact wpAny_bind (wpAny_loadPart (k _ _ (hK _ _ hD)) (wpAny_pure q))
  · cases z : (Value.ref D == Value.ref tp) with
    | false => rfl
    | true =>
      have : D = tp := Value.ref.inj (beq_iff_eq.mp z)
      rw [← this, hK _ _ hD] at htp
      cases htp
end PySem.W
namespace Fld
open PySem PySem.Spec PyProof.Rows L2
/-- at a: a kept error of the class D with these attributes -/
def ErrD (H : Hp) (a D : Addr) (fs : List (Str × V)) : Prop := ∃ d, H a = some (ExK (.ref D) (some d) a) ∧ H d = some (.xd fs)
def rIsXd (K : PySem.W.Frag) : List V → Hp → VK → Prop := fun xs H Q => ∃ (a D : Addr) (fs : List (Str × V)) (c : V) (cv : Value) (b : Bool), xs = [.ref a, c] ∧ ErrD H a D fs ∧ ExcC K D ∧ ClsV c cv ∧ PySem.W.kitOne K (.ref D) cv = some b ∧ Q (.bl b) H
theorem call_isXd {X : Cx} : CallR X (.builtin "isinstance") (rIsXd X.K) := by
  intro pins s σ H xs us Q I r h
  obtain ⟨a, D, fs, c, cv, b, rfl, ⟨d, ha, hd⟩, C, hcv, e, q⟩ := h
  obtain ⟨u1, u2, rfl, r1, r2⟩ := vals2 r
  cases (show u1 = Value.ref a from r1)
  cases hcv.eq r2
  obtain ⟨⟨oe, vs, hget, hz, hv⟩, _⟩ := I.hok a _ ha
  obtain ⟨mA, hns, _⟩ : ObjOk X.prog X.w H s.heap d (.xd fs) := I.hok d _ hd
  obtain ⟨od, ho, _⟩ := lookIn_ns hns
  have J : PySem.W.InstAt s.heap a oe D (some od) := ⟨hget, hz.1, by unfold PySem.W.notCls; rw [hv] <;> rfl, by rw [hz.2]; exact ho⟩
  exact PySem.W.kia_one (PySem.W.kit_err C) I.kIn J e (fun z => nomatch z) fun tk => ⟨.bl b, H, I.kept (t' := tk) fun _ _ z => z, rfl, q⟩
def rIsW (K : PySem.W.Frag) : List V → Hp → VK → Prop := fun xs H Q => rIsU K xs H Q ∨ rIsXd K xs H Q
theorem call_isW {X : Cx} : CallR X (.builtin "isinstance") (rIsW X.K) := by
  intro pins s σ H xs us Q I r h
  rcases h with h | h
  · exact call_isU pins s σ H xs us Q I r h
  · exact call_isXd pins s σ H xs us Q I r h
/-- x.f, x a kept error with this attribute -/
def tXd (K : PySem.W.Frag) (f : Str) (te : TE) : TE := fun σ H Q => te σ H fun x H1 => ∃ (a C : Addr) (fs : List (Str × V)) (v : V), x = .ref a ∧ XfC K C ∧ PySem.W.findIn K (.ref C) f = some none ∧ ErrD H1 a C fs ∧ fs.lookup f = some v ∧ Q v H1
theorem pe_xd {X : Cx} {e : Expr} {te : TE} {pos : Pos} {n : Str} (he : PE X e te) (hb : attributeBase e n X.env (eval e X.env) = eval e X.env := by rfl) : PE X (.Attribute e n pos) (tXd X.K n te) := by
  refine ⟨fun pins s σ H Q I h => attr_of hb (thn (he.run pins s σ H _ I h) fun u s1 hh => ?_)⟩
  obtain ⟨x, H1, I1, rx, a, C, fs, v, ex, T, hno, ⟨d, ha, hd⟩, l, q⟩ := hh
  subst ex
  obtain rfl : u = Value.ref a := rx
  obtain ⟨⟨oe, vs, hget, hz, hv⟩, _⟩ := I1.hok a _ ha
  obtain ⟨mA, hns, hr⟩ : ObjOk X.prog X.w H1 s1.heap d (.xd fs) := I1.hok d _ hd
  obtain ⟨od, ho, hl⟩ := lookIn_ns hns
  obtain ⟨u, hu, ru⟩ := RelO.some_of (v := v) (o := mA n) (by rw [← l]; exact hr n)
  have J : PySem.W.InstAt s1.heap a oe C (some od) := ⟨hget, hz.1, by unfold PySem.W.notCls; rw [hv] <;> rfl, by rw [hz.2]; exact ho⟩
  exact HandSPX.exc_get I1.kIn J T.ga T.gg T.exC (PySem.W.findObj_own T.hdC hno rfl (by rw [hl, hu])) (handed_of ru) ⟨v, H1, I1.tok _, ru, q⟩
/-- list.count(True) -/
def rCntB (K : PySem.W.Frag) : V → List V → Hp → VK → Prop := fun x xs H Q => ∃ (p : Addr) (bs : List Bool), x = .ref p ∧ xs = [.bl true] ∧ SqL K H p (bs.map V.bl) ∧ Q (.int (bs.count true : Nat)) H
theorem bools_of : ∀ {bs : List Bool} {us : List Value}, Vals (bs.map V.bl) us → us = bs.map Value.bool
  | [], _, r => by cases r; rfl
  | b :: bs, _, r => by
    rw [List.map_cons] at r
    cases r with
    | cons h t => rw [List.map_cons, ← bools_of t, show _ = Value.bool b from h]
def yesB : Value → Bool
  | .bool b => b
  | _ => false
theorem cnt_bools : ∀ bs : List Bool, (bs.map Value.bool).countP yesB = bs.count true
  | [] => rfl
  | b :: bs => by
    rw [List.map_cons, List.countP_cons, List.count_cons, cnt_bools bs]
    cases b <;> rfl
theorem mt_cntB {X : Cx} : MtR X "list.count" (rCntB X.K) := by
  intro pins s σ H x xs v us Q I rx rxs h
  obtain ⟨p, bs, rfl, rfl, hs, q⟩ := h
  obtain rfl : v = Value.ref p := rx
  obtain ⟨u, rfl, ru⟩ := rxs.one
  obtain rfl : u = Value.bool true := ru
  obtain ⟨its, rv, ⟨⟨cls, dd, data, sl⟩, n, ho, hc, hdn, hd⟩, hlen⟩ := I.list hs
  simp only at hc hd
  subst hc hd
  have hb := bools_of rv
  refine call_meets PySem.F.slot_list_count ⟨_, ho, rfl⟩ PySem.F.entry_list_count (PySem.F.args_list_count_2 _ _) (SeqAt.list_countAt p its.toArray n dd sl (.bool true) yesB) ⟨ho, fun y hy => ?_, ?_⟩
  · rw [List.mem_toArray, hb] at hy
    obtain ⟨b, _, rfl⟩ := List.mem_map.mp hy
    have := SeqAt.EqAt.bool_bool (A := X.A.in1) (s := s) b true
    cases b <;> exact this
  · refine ⟨.int (bs.count true : Nat), H, I.tok _, ⟨s.toks, ?_⟩, q⟩
    have e : its.toArray.toList.countP yesB = bs.count true := by rw [List.toList_toArray, hb, cnt_bools]
    rw [e]
end Fld
namespace Fld
open PySem PySem.Spec PyProof.Rows L2
theorem FnOk_weak {P : Program} {w : World} {K : PySem.W.Frag} {mg : Str → Option Value} {base : Heap} {CX : CXT} {k : Nat} {f : Addr} {fd : FuncData} {ps : List Str} {s1 s2 : Sp} (G : FnOk P w K mg base CX k f fd ps s1) (h : ∀ vs H Q E, s2 vs H Q E → s1 vs H Q E) : FnOk P w K mg base CX k f fd ps s2 :=
  ⟨fun vs H Q E z => G.1 vs H Q E (h _ _ _ _ z), fun a b c d e f g i j k l m n z => G.2 a b c d e f g i j k l m n (h _ _ _ _ z)⟩
def dWork : PyData → Bool
  | .list ds => ds.all dIns
  | _ => false
theorem dWork_no {d : PyData} (e : subT (tyD d) "list" = false) : dWork d = false := by
  rw [sub_lst] at e
  cases d <;> first | rfl | cases e
def sp_bad_setting (K : PySem.W.Frag) (N : Addr) : Sp := fun vs H _ E => ∃ (v : V) (d : PyData), vs = [v] ∧ Dv K H v d ∧ Lim d ∧ dSetting d = false ∧ ∀ H', Same H H' → E (.ref N) none H'
/-- no setting; a setting and what is no list of instructions -/
def sp_run_wrong1 (K : PySem.W.Frag) (N : Addr) : Sp := fun vs H _ E => ∃ (v u : V) (d : PyData), vs = [v, u] ∧ Dv K H v d ∧ Lim d ∧ dSetting d = false ∧ ∀ H', Same H H' → E (.ref N) none H'
def sp_run_wrong2 (K : PySem.W.Frag) (N : Addr) : Sp := fun vs H _ E => ∃ (v u : V) (F : List Fd) (r w : Nat) (d : PyData), vs = [v, u] ∧ SetV K H v F r w ∧ SetOk F r w ∧ Dv K H u d ∧ Lim d ∧ dWork d = false ∧ ∀ H', Same H H' → E (.ref N) none H'
def dueD : Except Nat Tb → PyData
  | .ok _ => .str "fine"
  | .error k => .tuple [.str "bad", .int (k : Nat)]
/-- the word for a setting and a list -/
def sp_told (K : PySem.W.Frag) : Sp := fun vs H Q _ => ∃ (v u : V), vs = [v, u] ∧
  ((∃ d : PyData, Dv K H v d ∧ Lim d ∧ dSetting d = false ∧ ∀ H', Same H H' → Q (.str "setting") H') ∨
   (∃ (F : List Fd) (r w : Nat) (d : PyData), SetV K H v F r w ∧ SetOk F r w ∧ Dv K H u d ∧ Lim d ∧ dWork d = false ∧ ∀ H', Same H H' → Q (.str "value") H') ∨
   (∃ (L : Addr) (F : List Fd) (r w : Nat) (xs : List V) (is : List Ins), u = .ref L ∧ SetV K H v F r w ∧ SetOk F r w ∧ SqL K H L xs ∧ InssV K H xs is ∧ (∀ i ∈ is, i.Ok) ∧ is.length ≤ 1000 ∧ ∀ x H', Same H H' → Dp K H' x (dueD (runT F r (tb0 r) 0 is)) → Q x H'))
def sp_due (K : PySem.W.Frag) : Sp := fun vs H Q _ => ∃ (v : V) (L : Addr) (F : List Fd) (r w : Nat) (xs : List V) (is : List Ins), vs = [v, .ref L] ∧ SetV K H v F r w ∧ SetOk F r w ∧ SqL K H L xs ∧ InssV K H xs is ∧ (∀ i ∈ is, i.Ok) ∧ is.length ≤ 1000 ∧
  ∀ x H', Same H H' → Dp K H' x (dueD (runT F r (tb0 r) 0 is)) → Q x H'
theorem dIns_ok {i : Ins} (ok : i.Ok) : dIns i.dat = true := by
  have n9 : ∀ n : Nat, n ≤ 9999 → dBtw (.int (n : Nat)) 0 9999 = true := fun n h => nat_btw' (a := 0) (b := 9999) (by omega) h
  cases i with
  | again n => show (true && dBtw (.int (n : Nat)) 0 9999) = true; rw [n9 n ok]; rfl
  | limit n => show (true && dBtw (.int (n : Nat)) 0 9999) = true; rw [n9 n ok]; rfl
  | fixed n x => show (true && (dBtw (.int (n : Nat)) 0 9999 && dTxt (.str x) 0 40)) = true; rw [n9 n ok.1, show dTxt (.str x) 0 40 = true from ok.2]; rfl
  | entry n x => show (true && (dBtw (.int (n : Nat)) 0 9999 && dTxt (.str x) 0 40)) = true; rw [n9 n ok.1, show dTxt (.str x) 0 40 = true from ok.2]; rfl
  | new y x => show (dTxt (.str y) 1 20 && dTxt (.str x) 0 40) = true; rw [show dTxt (.str y) 1 20 = true from ok.1, show dTxt (.str x) 0 40 = true from ok.2]; rfl
theorem sz_lim {b k : Nat} {d : PyData} (z : Sz b k d) (h : b ≤ 10000000 := by decide) : Lim d := ⟨z.ok, Nat.le_trans z.w h⟩
end Fld
namespace Fld
open PySem PySem.Spec PyProof.Rows L2
theorem IsC.not {K : PySem.W.Frag} {C D : Addr} (h : IsC K C) (s : PySem.W.subIn K (.ref D) (.ref C) = some false) (sf : PySem.W.subIn K (.ref C) (.ref C) = some true) : PySem.W.kitOne K (.ref D) (.ref C) = some false := kit_own h.x.hd h.t s fun _ => by
  cases z : (Value.ref D == Value.ref C) with
  | false => rfl
  | true =>
    have : D = C := Value.ref.inj (beq_iff_eq.mp z)
    rw [this, sf] at s; cases s
theorem xfc_of {K : PySem.W.Frag} {C : Addr} (x : ExcC K C) : XfC K C := ⟨x.hg, x.hk, x.hs, x.hd⟩
end Fld
namespace Fld
open PySem PySem.Spec PyProof.Rows L2
/-! ### values that are no settings -/
theorem ts_off {H : Hp} {p : Addr} {xs : List V} (h : H p = some (.lst xs)) : TS H (OffS [p] H) := fun a u t e => by
  have n : a ∉ [p] := fun z => by
    rw [List.mem_singleton.mp z, h] at e; cases e
    exact nt_lst t
  rw [off_ne n]; exact e
theorem bad_a {a b c : PyData} (h : dFields 12 a = false) : dSetting (.tuple [a, b, c]) = false := by
  show (dFields 12 a && _ && _) = false
  rw [h]; rfl
theorem bad_b {a b c : PyData} (h : dBtw b 0 120 = false) : dSetting (.tuple [a, b, c]) = false := by
  show (_ && dBtw b 0 120 && _) = false
  rw [h, Bool.and_false, Bool.false_and]
theorem bad_c {a b c : PyData} (h : dBtw c 0 4 = false) : dSetting (.tuple [a, b, c]) = false := by
  show (_ && dBtw c 0 4) = false
  rw [h, Bool.and_false]
theorem sz_tri' {a b c : PyData} (x : Sz 60000 3 a) (y : Sz 1010 0 b) (z : Sz 1010 0 c) : Sz 100000 4 (.tuple [a, b, c]) := by
  refine sz_tup' (k := 3) ?_ ?_ ?_
  · rw [okVAll, okVAll, okVAll, okVAll, x.ok, y.ok, z.ok]; rfl
  · have := x.w; have := y.w; have := z.w
    rw [wVAll, wVAll, wVAll, wVAll]; omega
  · refine depthAll_le fun d hd => ?_
    simp only [List.mem_cons, List.not_mem_nil, or_false] at hd
    rcases hd with rfl | rfl | rfl
    · exact x.dp
    · exact Nat.le_trans y.dp (by decide)
    · exact Nat.le_trans z.dp (by decide)
theorem sz_triL {a b c : PyData} (x : Sz 60000 3 a) (y : Sz 1010 0 b) (z : Sz 1010 0 c) : Sz 100000 4 (.list [a, b, c]) := by
  refine sz_lst' (k := 3) ?_ ?_ ?_
  · rw [okVAll, okVAll, okVAll, okVAll, x.ok, y.ok, z.ok]; rfl
  · have := x.w; have := y.w; have := z.w
    rw [wVAll, wVAll, wVAll, wVAll]; omega
  · refine depthAll_le fun d hd => ?_
    simp only [List.mem_cons, List.not_mem_nil, or_false] at hd
    rcases hd with rfl | rfl | rfl
    · exact x.dp
    · exact Nat.le_trans y.dp (by decide)
    · exact Nat.le_trans z.dp (by decide)
/-- no setting, not too great -/
def BadS (d : PyData) : Prop := Lim d ∧ dSetting d = false
def fdsD (F : List Fd) : PyData := .tuple (F.map fdat)
def fdsL (F : List Fd) : PyData := .list (F.map fdat)
theorem sz_fdsL {F : List Fd} (h : ∀ f ∈ F, FdOk f) (hl : F.length ≤ 40) : Sz 30000 2 (fdsL F) := by
  obtain ⟨h1, h2, h3⟩ := sz_many (b := 700) (k := 1) (ds := F.map fdat) fun d hd => by
    obtain ⟨f, hf, rfl⟩ := List.mem_map.mp hd
    exact sz_fd (h f hf)
  rw [List.length_map] at h2
  have : (700 + 2) * F.length ≤ (700 + 2) * 40 := Nat.mul_le_mul_left _ hl
  exact sz_lst' h1 (by omega) h3
def bads1 (F : List Fd) (r w : Nat) : List PyData := [.none, .tuple [], .list [], .dict [], .int 7, .list [fdsD F, .int (r : Nat), .int (w : Nat)], .tuple [fdsD F, .int (r : Nat)], .tuple [fdsL F, .int (r : Nat), .int (w : Nat)], .tuple [fdsD F, .int (-1), .int (w : Nat)]]
def bads2 (F : List Fd) (r w : Nat) : List PyData := [.tuple [fdsD F, .int 121, .int (w : Nat)], .tuple [fdsD F, .int (r : Nat), .int 5], .tuple [fdsD F, .int (r : Nat), .int (-1)], .tuple [fdsD F, .bool true, .int 0], .tuple [fdsD F, .int (r : Nat), .none]]
theorem sz_small {n : Nat} (h : n ≤ 9999) : Sz 1010 0 (.int (n : Nat)) := sz_int (Nat.lt_of_le_of_lt (show n ≤ 9999 from h) (by decide +kernel))
theorem bads1_ok {F : List Fd} {r w : Nat} (ok : SetOk F r w) : ∀ d ∈ bads1 F r w, BadS d := by
  have hl := ok.len
  have zf : Sz 60000 3 (fdsD F) := (sz_fds ok.fd (by omega)).mono (by omega) (by omega)
  have zl : Sz 60000 3 (fdsL F) := (sz_fdsL ok.fd (by omega)).mono (by omega) (by omega)
  have ir : Sz 1010 0 (.int (r : Nat)) := sz_small (by have := ok.r; omega)
  have iw : Sz 1010 0 (.int (w : Nat)) := sz_small (by have := ok.w; omega)
  have im : Sz 1010 0 (.int (-1)) := sz_int
  intro d hd
  simp only [bads1, List.mem_cons, List.not_mem_nil, or_false] at hd
  rcases hd with rfl | rfl | rfl | rfl | rfl | rfl | rfl | rfl | rfl
  · exact ⟨⟨by decide, by decide⟩, rfl⟩
  · exact ⟨⟨by decide, by decide⟩, rfl⟩
  · exact ⟨⟨by decide, by decide⟩, rfl⟩
  · exact ⟨⟨by decide, by decide⟩, rfl⟩
  · exact ⟨sz_lim (b := 1010) (k := 0) sz_int, rfl⟩
  · exact ⟨sz_lim (sz_triL zf ir iw), rfl⟩
  · refine ⟨sz_lim (b := 100000) (k := 4) (sz_tup' (k := 3) ?_ ?_ ?_), rfl⟩
    · rw [okVAll, okVAll, okVAll, zf.ok, ir.ok]; rfl
    · have := zf.w; have := ir.w
      rw [wVAll, wVAll, wVAll]; omega
    · refine depthAll_le fun d hd => ?_
      simp only [List.mem_cons, List.not_mem_nil, or_false] at hd
      rcases hd with rfl | rfl
      · exact zf.dp
      · exact Nat.le_trans ir.dp (by decide)
  · exact ⟨sz_lim (sz_tri' zl ir iw), bad_a rfl⟩
  · exact ⟨sz_lim (sz_tri' zf im iw), bad_b (by decide)⟩
theorem bads2_ok {F : List Fd} {r w : Nat} (ok : SetOk F r w) : ∀ d ∈ bads2 F r w, BadS d := by
  have hl := ok.len
  have zf : Sz 60000 3 (fdsD F) := (sz_fds ok.fd (by omega)).mono (by omega) (by omega)
  have ir : Sz 1010 0 (.int (r : Nat)) := sz_small (by have := ok.r; omega)
  have iw : Sz 1010 0 (.int (w : Nat)) := sz_small (by have := ok.w; omega)
  have tr : Sz 1010 0 (.bool true) := ⟨by decide, by decide, by decide⟩
  have nn : Sz 1010 0 .none := ⟨by decide, by decide, by decide⟩
  intro d hd
  simp only [bads2, List.mem_cons, List.not_mem_nil, or_false] at hd
  rcases hd with rfl | rfl | rfl | rfl | rfl
  · exact ⟨sz_lim (sz_tri' zf sz_int iw), bad_b (by decide)⟩
  · exact ⟨sz_lim (sz_tri' zf ir sz_int), bad_c (by decide)⟩
  · exact ⟨sz_lim (sz_tri' zf ir sz_int), bad_c (by decide)⟩
  · exact ⟨sz_lim (sz_tri' zf tr sz_int), bad_b (by decide)⟩
  · exact ⟨sz_lim (sz_tri' zf ir nn), bad_c (by decide)⟩
/-- values beside fields -/
def odds : List PyData := [.tuple [.str "A", .str ""], .tuple [.str "", .str "a"], .tuple [.str "a", .str "B"], .tuple [.str "a"], .none, .str "ab"]
theorem odds_ok : ∀ d ∈ odds, dField d = false ∧ Sz 700 1 d := by
  intro d hd
  simp only [odds, List.mem_cons, List.not_mem_nil, or_false] at hd
  rcases hd with rfl | rfl | rfl | rfl | rfl | rfl <;> exact ⟨by decide +kernel, ⟨by decide +kernel, by decide +kernel, by decide +kernel⟩⟩
theorem bent_fds {F : List Fd} {d : PyData} {k : Nat} (hF : ∀ f ∈ F, FdOk f) (hl : F.length ≤ 12) (hd : dField d = false) (hz : Sz 700 1 d) (hk : k < 12) (hkl : k ≤ F.length) : dFields 12 (.tuple (((F.map fdat).take k ++ [d] ++ (F.map fdat).drop k).take 12)) = false ∧ Sz 60000 3 (.tuple (((F.map fdat).take k ++ [d] ++ (F.map fdat).drop k).take 12)) := by
  have mem : d ∈ (((F.map fdat).take k ++ [d] ++ (F.map fdat).drop k).take 12) := by
    refine List.mem_of_getElem? (i := k) ?_
    rw [List.getElem?_take_of_lt hk, List.append_assoc, List.getElem?_append_right (by rw [List.length_take, List.length_map]; omega)]
    rw [List.length_take, List.length_map, Nat.min_eq_left hkl, Nat.sub_self]; rfl
  refine ⟨?_, ?_⟩
  · show (decide _ && List.all _ dField) = false
    rw [show List.all (((F.map fdat).take k ++ [d] ++ (F.map fdat).drop k).take 12) dField = false from ?_, Bool.and_false]
    refine Bool.eq_false_iff.mpr fun h => ?_
    have := List.all_eq_true.mp h d mem
    rw [hd] at this; cases this
  · obtain ⟨h1, h2, h3⟩ := sz_many (b := 700) (k := 1) (ds := ((F.map fdat).take k ++ [d] ++ (F.map fdat).drop k).take 12) fun e he => by
      have he := List.mem_of_mem_take he
      rcases List.mem_append.mp he with he | he
      · rcases List.mem_append.mp he with he | he
        · obtain ⟨f, hf, rfl⟩ := List.mem_map.mp (List.mem_of_mem_take he)
          exact sz_fd (hF f hf)
        · rw [List.mem_singleton.mp he]; exact hz
      · obtain ⟨f, hf, rfl⟩ := List.mem_map.mp (List.mem_of_mem_drop he)
        exact sz_fd (hF f hf)
    have : (((F.map fdat).take k ++ [d] ++ (F.map fdat).drop k).take 12).length ≤ 12 := by rw [List.length_take]; omega
    have : (700 + 2) * (((F.map fdat).take k ++ [d] ++ (F.map fdat).drop k).take 12).length ≤ (700 + 2) * 12 := Nat.mul_le_mul_left _ this
    exact (sz_tup' (b := 30000) (k := 1) h1 (by omega) h3).mono (by omega) (by omega)
theorem one_fds {d : PyData} (hd : dField d = false) (hz : Sz 700 1 d) : dFields 12 (.tuple [d]) = false ∧ Sz 60000 3 (.tuple [d]) := by
  refine ⟨?_, ?_⟩
  · show (true && (dField d && true)) = false
    rw [hd]; rfl
  · exact (sz_tup' (b := 1000) (k := 1) (by rw [okVAll, okVAll, hz.ok]; rfl) (by rw [wVAll, wVAll]; have := hz.w; omega) (by rw [PyData.depthAll, PyData.depthAll]; have := hz.dp; omega)).mono (by omega) (by omega)
def fab : PyData := .tuple [.str "a", .str "b"]
theorem ab13 : dFields 12 (.tuple (List.replicate 13 fab)) = false ∧ Sz 60000 3 (.tuple (List.replicate 13 fab)) := ⟨rfl, ⟨by decide +kernel, by decide +kernel, by decide +kernel⟩⟩
def sp_wrong_setting (K : PySem.W.Frag) : Sp := fun vs H Q _ => ∃ (p c : Addr) (n : Nat) (v : V) (F : List Fd) (r w : Nat), vs = [.ref p, v] ∧ Pen H p c n ∧ n ≤ 600000 ∧ SetV K H v F r w ∧ SetOk F r w ∧ ∀ x d H', Dv K H' x d → BadS d → Drew p c H H' (n + 10) → Q x H'
end Fld
namespace Fld
open PySem PySem.Spec PyProof.Rows L2
/-! ### values that are no lists of instructions -/
def oddsI : List PyData := [.none, .tuple [.str "new", .str "", .str "a"], .tuple [.str "again", .int (-1)], .list [.str "again", .int 0], .tuple [.str "limit", .bool true], .tuple [.str "fixed", .int 0]]
theorem oddsI_ok : ∀ d ∈ oddsI, dIns d = false ∧ Sz 1500 1 d := by
  intro d hd
  simp only [oddsI, List.mem_cons, List.not_mem_nil, or_false] at hd
  rcases hd with rfl | rfl | rfl | rfl | rfl | rfl <;> exact ⟨by decide +kernel, ⟨by decide +kernel, by decide +kernel, by decide +kernel⟩⟩
structure WL (ds : List PyData) : Prop where
  bad : ∃ d ∈ ds, dIns d = false
  sz : ∀ d ∈ ds, Sz 1500 1 d
  len : ds.length ≤ 20
theorem WL.rev {ds : List PyData} (h : WL ds) : WL ds.reverse := ⟨let ⟨d, m, e⟩ := h.bad; ⟨d, List.mem_reverse.mpr m, e⟩, fun d m => h.sz d (List.mem_reverse.mp m), by rw [List.length_reverse]; exact h.len⟩
def BadW (d : PyData) : Prop := Lim d ∧ dWork d = false
theorem sz_all {ds : List PyData} (h : ∀ d ∈ ds, Sz 1500 1 d) (hl : ds.length ≤ 20) : Sz 50000 2 (.list ds) ∧ Sz 50000 2 (.tuple ds) := by
  obtain ⟨h1, h2, h3⟩ := sz_many (b := 1500) (k := 1) h
  have : (1500 + 2) * ds.length ≤ (1500 + 2) * 20 := Nat.mul_le_mul_left _ hl
  exact ⟨sz_lst' h1 (by omega) h3, sz_tup' h1 (by omega) h3⟩
theorem WL.badW {ds : List PyData} (h : WL ds) : BadW (.list ds) := by
  refine ⟨sz_lim (sz_all h.sz h.len).1, ?_⟩
  show ds.all dIns = false
  obtain ⟨d, m, e⟩ := h.bad
  refine Bool.eq_false_iff.mpr fun z => ?_
  have := List.all_eq_true.mp z d m
  rw [e] at this; cases this
def idat (is : List Ins) : List PyData := is.map Ins.dat
theorem wl_of {is : List Ins} {d : PyData} {ds : List PyData} (ok : ∀ i ∈ is, i.Ok) (hd : dIns d = false) (hz : Sz 1500 1 d) (m : d ∈ ds) (h : ∀ e ∈ ds, e = d ∨ e ∈ idat is ∨ e = (Ins.again 9999).dat) (hl : ds.length ≤ 20) : WL ds := by
  refine ⟨⟨d, m, hd⟩, fun e he => ?_, hl⟩
  rcases h e he with rfl | h | rfl
  · exact hz
  · obtain ⟨i, hi, rfl⟩ := List.mem_map.mp h
    exact sz_insD (ok i hi)
  · exact sz_insD (show (9999 : Nat) ≤ 9999 from Nat.le_refl _)
theorem wl_mid {is : List Ins} {d : PyData} (k : Nat) (ok : ∀ i ∈ is, i.Ok) (hd : dIns d = false) (hz : Sz 1500 1 d) (hl : is.length ≤ 12) : WL ((idat is).take k ++ [d] ++ (idat is).drop k) := by
  refine wl_of ok hd hz (List.mem_append_left _ (List.mem_append_right _ (List.mem_singleton.mpr rfl))) (fun e he => ?_) ?_
  · rcases List.mem_append.mp he with h | h
    · rcases List.mem_append.mp h with h | h
      · exact .inr (.inl (List.mem_of_mem_take h))
      · exact .inl (List.mem_singleton.mp h)
    · exact .inr (.inl (List.mem_of_mem_drop h))
  · rw [List.length_append, List.length_append, List.length_take, List.length_drop]
    have : (idat is).length = is.length := List.length_map ..
    show min k (idat is).length + 1 + _ ≤ 20
    omega
theorem wl_front {is : List Ins} {d : PyData} (ok : ∀ i ∈ is, i.Ok) (hd : dIns d = false) (hz : Sz 1500 1 d) (hl : is.length ≤ 12) : WL ([(Ins.again 9999).dat] ++ idat is ++ [d]) := by
  refine wl_of ok hd hz (List.mem_append_right _ (List.mem_singleton.mpr rfl)) (fun e he => ?_) ?_
  · rcases List.mem_append.mp he with h | h
    · rcases List.mem_append.mp h with h | h
      · exact .inr (.inr (List.mem_singleton.mp h))
      · exact .inr (.inl h)
    · exact .inl (List.mem_singleton.mp h)
  · rw [List.length_append, List.length_append]
    have : (idat is).length = is.length := List.length_map ..
    show 1 + (idat is).length + 1 ≤ 20
    omega
theorem wl_end {is : List Ins} {d : PyData} (ok : ∀ i ∈ is, i.Ok) (hd : dIns d = false) (hz : Sz 1500 1 d) (hl : is.length ≤ 12) : WL (idat is ++ [d]) := by
  refine wl_of ok hd hz (List.mem_append_right _ (List.mem_singleton.mpr rfl)) (fun e he => ?_) ?_
  · rcases List.mem_append.mp he with h | h
    · exact .inr (.inl h)
    · exact .inl (List.mem_singleton.mp h)
  · rw [List.length_append]
    have : (idat is).length = is.length := List.length_map ..
    show (idat is).length + 1 ≤ 20
    omega
theorem p_take {α β : Type} {R : α → β → Prop} : ∀ {xs : List α} {ys : List β} (k : Nat), Paired R xs ys → Paired R (xs.take k) (ys.take k)
  | _, _, 0, _ => .nil
  | _, _, _ + 1, .nil => .nil
  | _, _, k + 1, .cons h t => .cons h (p_take k t)
theorem p_drop {α β : Type} {R : α → β → Prop} : ∀ {xs : List α} {ys : List β} (k : Nat), Paired R xs ys → Paired R (xs.drop k) (ys.drop k)
  | _, _, 0, h => h
  | _, _, _ + 1, .nil => .nil
  | _, _, k + 1, .cons _ t => p_drop k t
end Fld
/-! f(k = v); t * 0, t * 1; data laid one by one; events and logs -/
namespace Fld
open PySem PySem.Spec PyProof.Rows L2
def gW {α : Type} : List α → List α → List α
  | [], ws => ws
  | _, _ => []
theorem gW_len {α : Type} {us ws : List α} {n : Nat} (h : (gW us ws).length = n) (h0 : 0 < n := by decide) : us = [] ∧ ws.length = n := by
  cases us with
  | nil => exact ⟨rfl, h⟩
  | cons a r => exact absurd h (by show ¬ 0 = n; omega)
theorem gW_rel {vs : List V} {us : List Value} {zs : List V} {ws : List Value} (r : Vals vs us) (s : Vals zs ws) : Vals (gW vs zs) (gW us ws) := by
  cases r with
  | nil => exact s
  | cons _ _ => exact .nil
section
variable {X : Cx} {CX : CXT} {k : Nat} {f : Addr} {fd : FuncData} {ps ks : List Str} {sp : Sp} {E : XK} {x : Str} {p pos : Pos} {tk : TA} {kws : List Keyword} {g : List Value → List Value → List Value} {gV : List V → List V → List V}
/-- f(k = v, ..), nothing by position -/
theorem pe_callK0 (F : FnOk X.prog X.w X.K X.mg X.base CX k f fd ps sp) (hr : Room k X.A) (hg : Gl X x) (hm : X.mg x = some (.ref f)) (hk : PySem.W.keepIn X.K (.ref f) = true) (hb : KBinds X.K fd ps ks g gV) (hx : Passes CX X E)
    (hkw : PK X kws tk) (hall : (backToKw pos (keywordEach kws X.env)).all (·.1.isSome) = true := by rfl) (hks : (backToKw pos (keywordEach kws X.env)).filterMap (·.1) = ks := by rfl)
    (hdb : (x == ("__debug__" : Str)) = false := by decide)
    (hpl : ((backTo pos (starEach [] X.env)).any (·.1) || (backToKw pos (keywordEach kws X.env)).any (·.1.isNone)) = false := by rfl) :
    PE X (.Call (.Name x p) [] kws pos) (tCallK sp gV E (fun _ H R => R [] H) tk) := by
  refine ⟨fun pins s σ H Q I h => ?_⟩
  refine wpAny_Call_Name_kw (ld_glob I hg hm ?_ hdb)
  refine PySem.W.callWith_KW0 (h₀ := X.base) I.ok.mod.kin hk hall (thn (hkw.run pos pins s σ H _ I h) fun ws s2 ⟨zs, H2, I2, rz, q2⟩ => ⟨I2.kIn, ?_⟩) hpl
  rw [hks]
  exact run_fnk (us := []) (vs := []) F hr hb hx I2 .nil rz q2
end
/-! ### t * 0, t * 1 -/
theorem tuple_mul1 (l : Addr) (items : Array Value) (n : Nat) (dd : Option Addr) (sl : Array (Option Value)) (u : Tok) :
    Meets (Builtin.«tuple.__mul__» ⟨[.ref l, .int 1 u], []⟩) (fun _ R s => s.heap.get? l = some { cls := .type "tuple", dict := dd, data := .seq items n, slots := sl } ∧ R (.ok (.ret (Value.ref l))) s) :=
  .of_wp fun prog w A R s h => by
    obtain ⟨hp, g, d, tk, os⟩ := s
    obtain ⟨hl, h⟩ := h
    have f1 := AutoSeq1.idx_int
    have c1 : (items.isEmpty || (1 : Int) == 1) = true := by rw [show ((1 : Int) == 1) = true from rfl, Bool.or_true]
    wp_walk using wpAny_loadPart' hl
    repeat (first
      | (refine wpAny_ite_true (decide_eq_true c1) ?_; wp_walk using wpAny_loadPart' hl)
      | (refine wpAny_ite_false (by decide) ?_; wp_walk using wpAny_loadPart' hl))
    exact ⟨_, rfl, h⟩
theorem tuple_mul0 (l : Addr) (items : Array Value) (n : Nat) (dd : Option Addr) (sl : Array (Option Value)) (u : Tok) (c0 : items.isEmpty = false) :
    Meets (Builtin.«tuple.__mul__» ⟨[.ref l, .int 0 u], []⟩) (fun _ R s => s.heap.get? l = some { cls := .type "tuple", dict := dd, data := .seq items n, slots := sl } ∧
      R (.ok (.ret (Value.ref s.heap.objs.size))) { s with heap := s.heap.push { cls := Value.type "tuple", data := Data.seq #[] }, toks := s.toks }) :=
  .of_wp fun prog w A R s h => by
    obtain ⟨hp, g, d, tk, os⟩ := s
    obtain ⟨hl, h⟩ := h
    have f1 := AutoSeq1.idx_int
    have c1 : (items.isEmpty || (0 : Int) == 1) = false := by rw [c0]; rfl
    have c2 : (decide ((0 : Int) ≤ 0) || items.isEmpty) = true := by rw [c0]; rfl
    wp_walk using wpAny_loadPart' hl
    repeat (first
      | (refine wpAny_ite_false (decide_eq_false (by rw [c1]; exact Bool.false_ne_true)) ?_; wp_walk using wpAny_loadPart' hl)
      | (refine wpAny_ite_true (decide_eq_true c2) ?_; wp_walk using wpAny_loadPart' hl)
      | (refine wpAny_ite_false (by decide) ?_; wp_walk using wpAny_loadPart' hl))
    exact ⟨_, rfl, h⟩
def rRepZ (K : PySem.W.Frag) : R2 := fun x y H Q => ∃ l b xs, x = .ref l ∧ y = .int (b2i b) ∧ SqT K H l xs ∧ xs ≠ [] ∧ (b = true → Q (.ref l) H) ∧ (b = false → ∀ p, H p = none → Q (.ref p) (upd H p (.tup [])))
theorem op_repZ {X : Cx} : OpR X (binaryOp .Mult) (rRepZ X.K) := by
  intro pins s σ H x y v u Q I rx ry h
  obtain ⟨l, b, xs, rfl, rfl, hT, hne, q1, q0⟩ := h
  cases rx
  obtain ⟨t, rfl⟩ := ry
  obtain ⟨its, r, ⟨⟨cls, dd, data, sl⟩, ho, hc, n, hd⟩, hs⟩ := I.tuple hT
  simp only at hc hd
  subst hc hd
  have hle : its.length = xs.length := r.length.symm
  have hn : its ≠ [] := fun e => hne (by
    rw [e] at hle
    exact List.eq_nil_of_length_eq_zero hle.symm)
  have hi : its.toArray.isEmpty = false := by
    cases its with
    | nil => exact absurd rfl hn
    | cons a b => rfl
  cases b with
  | true =>
    refine wpAny_binaryOp_repeat_ref (T := "tuple") (U := "int") (by decide) ⟨_, ho, rfl⟩ (fun s' => typeIs_int s' 1 t) noFill_tuple_mul F.fills_int_mul F.slot_int_rmul repeat_tuple F.slot_int_index.lookup
      (call_meets F.slot_int_rmul (typeIs_int s 1 t) F.entry_int_rmul (F.args_int_rmul_2 _ _) (int_rmul_tuple 1 t l its.toArray n dd sl)
        ⟨ho, rfl, ⟨_, ho, rfl⟩, call_meets F.slot_tuple_mul ⟨_, ho, rfl⟩ F.entry_tuple_mul (F.args_tuple_mul_2 _ _) (tuple_mul1 l its.toArray n dd sl t) ⟨ho, ?_⟩⟩)
    exact ⟨.ref l, H, I, rfl, q1 rfl⟩
  | false =>
    refine wpAny_binaryOp_repeat_ref (T := "tuple") (U := "int") (by decide) ⟨_, ho, rfl⟩ (fun s' => typeIs_int s' 0 t) noFill_tuple_mul F.fills_int_mul F.slot_int_rmul repeat_tuple F.slot_int_index.lookup
      (call_meets F.slot_int_rmul (typeIs_int s 0 t) F.entry_int_rmul (F.args_int_rmul_2 _ _) (int_rmul_tuple 0 t l its.toArray n dd sl)
        ⟨ho, rfl, ⟨_, ho, rfl⟩, call_meets F.slot_tuple_mul ⟨_, ho, rfl⟩ F.entry_tuple_mul (F.args_tuple_mul_2 _ _) (tuple_mul0 l its.toArray n dd sl t hi) ⟨ho, ?_⟩⟩)
    exact ⟨.ref s.heap.objs.size, _, I.laid (t' := s.toks) (o := .tup []) (fun b ob q => Heap.get?_push_of_some _ q) (Nat.le_refl _) ⟨by rw [sizeLine_eq]; decide, [], .nil, IsTup.new _ _⟩, rfl, q0 rfl _ (I.hok.fresh (Nat.le_refl _))⟩
/-! ### a comprehension with a test -/
section
variable {J : It} {n : Nat} {G : Hp → Prop} {Y : Nat → Hp → V → Hp → Prop} {g : TG} {tt : TT} {te : TE} {vs : List Nat} {σ : L2.St} {H1 : Hp} {D : Addr} {Qd : Hp → Prop}
theorem lc_genF (w : Walk J n G Y) (I : Nat → List V → Hp → Prop) (hz : n ≤ 10000000) (h0 : I 0 [] (upd H1 D (.lst []))) (hG : ∀ i ys H, I i ys H → G H)
    (hs : ∀ i ys x H' H'' (Q' : VK) (Z : Hp → Prop), i < n → ys.length ≤ i → H' D = some (.lst ys) → I i ys H' → Y i H' x H'' → (∀ y H4, H4 D = some (.lst ys) → I (i + 1) (ys ++ [y]) (upd H4 D (.lst (ys ++ [y]))) → Q' y H4) → (∀ H4, H4 D = some (.lst ys) → I (i + 1) ys H4 → Z H4) →
      g x (wipe σ vs) H'' fun σ2 H2 => wipe σ2 vs = wipe σ vs ∧ tt σ2 H2 fun b H3 => if b = true then te σ2 H3 Q' else Z H3)
    (hd : ∀ ys H', ys.length ≤ n → H' D = some (.lst ys) → I n ys H' → Qd H') :
    ∃ W : Nat → Nat → Hp → Prop, (∃ m, W 0 m (upd H1 D (.lst []))) ∧ ∀ i m H, W i m H →
      (J.stop i H ∧ Qd H) ∨ (J.go i H ∧ ∃ Nx : Hp → Prop, (∀ H', Nx H' → ∃ m', m' < m ∧ W (i + 1) m' H') ∧ ∀ x H', J.yld i H x H' → g x (wipe σ vs) H' fun σ2 H2 => wipe σ2 vs = wipe σ vs ∧ tt σ2 H2 fun b H3 =>
        if b = true then te σ2 H3 fun y H4 => ∃ acc, H4 D = some (.lst acc) ∧ acc.length < sizeLine ∧ Nx (upd H4 D (.lst (acc ++ [y]))) else Nx H3) := by
  refine lc_it w (fun i H => ∃ ys : List V, ys.length ≤ i ∧ H D = some (.lst ys) ∧ I i ys H) ⟨[], Nat.le_refl _, upd_same, h0⟩ (fun i H _ ⟨ys, _, _, h⟩ => hG i ys H h) ?_ ?_
  · rintro i x H H' hi ⟨ys, hl, hD, h⟩ y
    refine hs i ys x H H' _ _ hi hl hD h y (fun z H4 e4 h4 => ?_) (fun H4 e4 h4 => ⟨ys, by omega, e4, h4⟩)
    refine ⟨ys, e4, ?_, ys ++ [z], by rw [List.length_append]; show ys.length + 1 ≤ i + 1; omega, upd_same, h4⟩
    rw [sizeLine_eq]
    omega
  · rintro H ⟨ys, hl, hD, h⟩
    exact hd ys H hl hD h
end
/-! ### data laid one by one: all that was laid stands on a pile -/
section
variable {K : PySem.W.Frag} {S : List Addr} {H : Hp} {xs ys : List V} {ds es : List PyData} {Q : VK}
theorem DvAll.hd {v : V} {d : PyData} (h : DvAll K H (v :: xs) (d :: ds)) : Dv K H v d := by cases h; assumption
theorem DvAll.tl {v : V} {d : PyData} (h : DvAll K H (v :: xs) (d :: ds)) : DvAll K H xs ds := by cases h; assumption
theorem stT (A : DvAll K (OffS S H) xs ds) (hS : Hid S H) (it : DvAll K (OffS S H) ys es) (hl : ys.length ≤ sizeLine) (q : ∀ v H', Same H H' → Hid S H' → H v = none → H' v = some (.tup ys) → DvAll K (OffS S H') (.ref v :: xs) (.tuple es :: ds) → Q (.ref v) H') :
    ys.length ≤ sizeLine ∧ ∀ p, H p = none → Q (.ref p) (upd H p (.tup ys)) :=
  ⟨hl, fun p hp => q p _ (Same.new hp) (hS.keep (Same.new hp)) hp upd_same (.cons (new_tup hp hS it) (A.keep (Same.new hp).off))⟩
theorem stL (A : DvAll K (OffS S H) xs ds) (hS : Hid S H) (it : DvAll K (OffS S H) ys es) (hl : ys.length ≤ sizeLine) (q : ∀ v H', Same H H' → Hid S H' → H v = none → H' v = some (.lst ys) → DvAll K (OffS S H') (.ref v :: xs) (.list es :: ds) → Q (.ref v) H') :
    ys.length ≤ sizeLine ∧ ∀ p, H p = none → Q (.ref p) (upd H p (.lst ys)) :=
  ⟨hl, fun p hp => q p _ (Same.new hp) (hS.keep (Same.new hp)) hp upd_same (.cons (new_lst hp hS it) (A.keep (Same.new hp).off))⟩
theorem stD (A : DvAll K (OffS S H) xs ds) (hS : Hid S H) (q : ∀ v H', Same H H' → Hid S H' → H v = none → DvAll K (OffS S H') (.ref v :: xs) (.dict [] :: ds) → Q (.ref v) H') :
    ∀ p, H p = none → Q (.ref p) (upd H p (.dK [])) :=
  fun p hp => q p _ (Same.new hp) (hS.keep (Same.new hp)) hp (.cons (new_dic hp hS) (A.keep (Same.new hp).off))
end
/-- hidden lists hide no tuple and no dict -/
theorem ks_off {S : List Addr} {H : Hp} (h : ∀ b ∈ S, ∃ xs, H b = some (.lst xs)) : KS H (OffS S H) := fun a u t e => by
  have n : a ∉ S := fun z => by
    obtain ⟨xs, g⟩ := h a z
    rw [g] at e
    cases e
    rcases t with t | ⟨_, t⟩
    · exact nt_lst t
    · cases t
  rw [off_ne n]; exact e
/-! ### events -/
inductive Evt where
  | tab (i : Ins) | blk (s : Nat) (b : Blk) | ans (a : Ans) | rawT (ns : List Int) | rawB (s : Nat) (ns : List Int) | rawA (ns : List Int)
def EvtV (K : PySem.W.Frag) (H : Hp) (v : V) : Evt → Prop
  | .tab i => ∃ a u, v = .ref a ∧ SqT K H a [.str "table", u] ∧ InsV K H u i
  | .blk s b => ∃ a u, v = .ref a ∧ SqT K H a [.str "block", .int (s : Nat), u] ∧ BlkV K H u b
  | .ans x => ∃ a u, v = .ref a ∧ SqT K H a [.str "answer", u] ∧ AnsV K H u x
  | .rawT ns => ∃ a L, v = .ref a ∧ SqT K H a [.str "table", .ref L] ∧ SqL K H L (ns.map V.int)
  | .rawB s ns => ∃ a L, v = .ref a ∧ SqT K H a [.str "block", .int (s : Nat), .ref L] ∧ SqL K H L (ns.map V.int)
  | .rawA ns => ∃ a L, v = .ref a ∧ SqT K H a [.str "answer", .ref L] ∧ SqL K H L (ns.map V.int)
def rawOk (ns : List Int) : Prop := ns.length ≤ 8 ∧ ∀ o ∈ ns, 0 ≤ o ∧ o < 256
def Evt.Ok : Evt → Prop
  | .tab i => i.Ok
  | .blk s b => s ≤ 20 ∧ b.Ok ∧ b.ls.length ≤ 3
  | .ans x => x.Ok
  | .rawT ns => rawOk ns
  | .rawB s ns => s ≤ 20 ∧ rawOk ns
  | .rawA ns => rawOk ns
theorem InsV.same {K : PySem.W.Frag} {H H' : Hp} {v : V} {i : Ins} (h : InsV K H v i) (s : Same H H') : InsV K H' v i := h.ts (.of s)
theorem AnsV.ts {K : PySem.W.Frag} {H H' : Hp} {v : V} {i : Ans} (h : AnsV K H v i) (t : TS H H') : AnsV K H' v i := let ⟨a, e, g⟩ := h; ⟨a, e, t.tup g⟩
theorem EvtV.keep {K : PySem.W.Frag} {H H' : Hp} {v : V} {e : Evt} (s : Same H H') (h : EvtV K H v e) : EvtV K H' v e := by
  cases e with
  | tab i => obtain ⟨a, u, r, g, k⟩ := h; exact ⟨a, u, r, s.tup g, k.ts (.of s)⟩
  | blk n b => obtain ⟨a, u, r, g, k⟩ := h; exact ⟨a, u, r, s.tup g, k.keep s⟩
  | ans i => obtain ⟨a, u, r, g, k⟩ := h; exact ⟨a, u, r, s.tup g, k.ts (.of s)⟩
  | rawT ns => obtain ⟨a, u, r, g, k⟩ := h; exact ⟨a, u, r, s.tup g, s.seq k⟩
  | rawB n ns => obtain ⟨a, u, r, g, k⟩ := h; exact ⟨a, u, r, s.tup g, s.seq k⟩
  | rawA ns => obtain ⟨a, u, r, g, k⟩ := h; exact ⟨a, u, r, s.tup g, s.seq k⟩
abbrev EvtsV (K : PySem.W.Frag) (H : Hp) (xs : List V) (es : List Evt) : Prop := Paired (EvtV K H) xs es
theorem EvtsV.keep {K : PySem.W.Frag} {H H' : Hp} {xs : List V} {es : List Evt} (s : Same H H') (h : EvtsV K H xs es) : EvtsV K H' xs es := pmap (fun _ _ z => EvtV.keep s z) h
/-- what an event is with its octets -/
def Evt.oct : Evt → List Int
  | .tab i => i.oct
  | .blk _ b => b.oct
  | .ans x => x.oct
  | .rawT ns => ns
  | .rawB _ ns => ns
  | .rawA ns => ns
def octD (ns : List Int) : PyData := .list (ns.map PyData.int)
def Evt.dat : Evt → PyData
  | .tab i => .tuple [.str "table", octD i.oct]
  | .blk s b => .tuple [.str "block", .int (s : Nat), octD b.oct]
  | .ans x => .tuple [.str "answer", octD x.oct]
  | .rawT ns => .tuple [.str "table", octD ns]
  | .rawB s ns => .tuple [.str "block", .int (s : Nat), octD ns]
  | .rawA ns => .tuple [.str "answer", octD ns]
/-- the items of the tuple of an event with its octets at L -/
def Evt.vs (L : Addr) : Evt → List V
  | .tab _ => [.str "table", .ref L]
  | .blk s _ => [.str "block", .int (s : Nat), .ref L]
  | .ans _ => [.str "answer", .ref L]
  | .rawT _ => [.str "table", .ref L]
  | .rawB s _ => [.str "block", .int (s : Nat), .ref L]
  | .rawA _ => [.str "answer", .ref L]
/-- an event of a log -/
def LEv (K : PySem.W.Frag) (H : Hp) (v : V) (e : Evt) : Prop := ∃ a L, v = .ref a ∧ SqT K H a (e.vs L) ∧ SqL K H L (e.oct.map V.int)
theorem LEv.keep {K : PySem.W.Frag} {H H' : Hp} {v : V} {e : Evt} (s : Same H H') (h : LEv K H v e) : LEv K H' v e := let ⟨a, L, r, g, k⟩ := h; ⟨a, L, r, s.tup g, s.seq k⟩
theorem dv_ints {K : PySem.W.Frag} {H : Hp} : ∀ ns : List Int, DvAll K H (ns.map V.int) (ns.map PyData.int)
  | [] => .nil
  | n :: r => .cons (.int n) (dv_ints r)
theorem LEv.dv {K : PySem.W.Frag} {H : Hp} {v : V} {e : Evt} (h : LEv K H v e) : Dv K H v e.dat := by
  obtain ⟨a, L, rfl, g, k⟩ := h
  have l : Dv K H (.ref L) (octD e.oct) := .lst k (dv_ints _)
  cases e with
  | tab i => exact .tup g (.cons (.str _) (.cons l .nil))
  | blk n b => exact .tup g (.cons (.str _) (.cons (.int _) (.cons l .nil)))
  | ans i => exact .tup g (.cons (.str _) (.cons l .nil))
  | rawT ns => exact .tup g (.cons (.str _) (.cons l .nil))
  | rawB n ns => exact .tup g (.cons (.str _) (.cons (.int _) (.cons l .nil)))
  | rawA ns => exact .tup g (.cons (.str _) (.cons l .nil))
theorem evt_octs {e : Evt} (ok : e.Ok) : (∀ o ∈ e.oct, 0 ≤ o ∧ o < 256) ∧ e.oct.length ≤ 300 := by
  cases e with
  | tab i =>
    refine ⟨ins_oct ok, ?_⟩
    cases i with
    | again n => have := numOct_len3 (n := n) (b := 5) (m := 0) ok; show (numOct n 5 0).length ≤ 300; omega
    | limit n => have := numOct_len3 (n := n) (b := 5) (m := 32) ok; show (numOct n 5 32).length ≤ 300; omega
    | fixed n x => have := numOct_len3 (n := n) (b := 6) (m := 192) ok.1; have := strOct_len2 (b := 7) (m := 0) (txt_len ok.2); show (numOct n 6 192 ++ strOct x 7 0).length ≤ 300; rw [List.length_append]; omega
    | entry n x => have := numOct_len3 (n := n) (b := 6) (m := 128) ok.1; have := strOct_len2 (b := 7) (m := 0) (txt_len ok.2); show (numOct n 6 128 ++ strOct x 7 0).length ≤ 300; rw [List.length_append]; omega
    | new y x => have := strOct_len2 (b := 5) (m := 64) (txt_len (txt_20 ok.1)); have := strOct_len2 (b := 7) (m := 0) (txt_len ok.2); show (strOct y 5 64 ++ strOct x 7 0).length ≤ 300; rw [List.length_append]; omega
  | blk s b =>
    obtain ⟨_, hb, hl⟩ := ok
    refine ⟨blk_octs hb, ?_⟩
    have h1 := numOct_len3 (n := b.req) (b := 8) (m := 0) hb.req_
    have h2 := numOct_len3 (n := b.req - b.base) (b := 8) (m := 0) (by have := hb.req_; omega)
    have h3 := lns_len2 (base := b.base) hb.req_ hb.base_ b.ls hb.lns_
    show ((numOct b.req 8 0 ++ numOct (b.req - b.base) 8 0) ++ lnsOct b.base b.ls).length ≤ 300
    rw [List.length_append, List.length_append]; omega
  | ans x =>
    refine ⟨ans_oct ok, ?_⟩
    cases x with
    | done n => have h : n ≤ 20 := ok; have := numOct_len3 (n := n) (b := 7) (m := 128) (by omega); show (numOct n 7 128).length ≤ 300; omega
    | cancelled n => have h : n ≤ 20 := ok; have := numOct_len3 (n := n) (b := 6) (m := 64) (by omega); show (numOct n 6 64).length ≤ 300; omega
    | received n => have := numOct_len3 (n := n) (b := 6) (m := 0) ok.2; show (numOct n 6 0).length ≤ 300; omega
  | rawT ns => exact ⟨ok.2, by have := ok.1; show ns.length ≤ 300; omega⟩
  | rawB s ns => exact ⟨ok.2.2, by have := ok.2.1; show ns.length ≤ 300; omega⟩
  | rawA ns => exact ⟨ok.2, by have := ok.1; show ns.length ≤ 300; omega⟩
theorem sz_octs {ns : List Int} (h : ∀ o ∈ ns, 0 ≤ o ∧ o < 256) (hl : ns.length ≤ 300) : Sz 303604 1 (octD ns) := by
  refine sz_lst' ?_ ?_ ?_
  · refine okVAll_of fun d hd => ?_
    obtain ⟨o, ho, rfl⟩ := List.mem_map.mp hd
    have := h o ho
    exact (sz_int (i := o) (Nat.lt_of_le_of_lt (show o.natAbs ≤ 256 by omega) (by decide +kernel))).ok
  · have : ∀ l : List Int, wVAll (l.map PyData.int) = 1012 * l.length := by
      intro l
      induction l with
      | nil => rfl
      | cons a r ih => rw [List.map_cons, wVAll, ih, List.length_cons, wV]; omega
    rw [this]; omega
  · refine depthAll_le fun d hd => ?_
    obtain ⟨o, ho, rfl⟩ := List.mem_map.mp hd
    rw [PyData.depth]; omega
theorem evt_sz {e : Evt} (ok : e.Ok) : Sz 305000 2 e.dat := by
  obtain ⟨h1, h2⟩ := evt_octs ok
  have z := sz_octs h1 h2
  have two : ∀ {k : PyData}, Sz 92 0 k → Sz 305000 2 (.tuple [k, octD e.oct]) := fun hk =>
    sz_tup' (k := 1) (by rw [okVAll, okVAll, okVAll, hk.ok, z.ok]; rfl) (by rw [wVAll, wVAll, wVAll]; have := hk.w; have := z.w; omega) (by rw [PyData.depthAll, PyData.depthAll, PyData.depthAll]; have := hk.dp; have := z.dp; omega)
  have tri : ∀ {k : PyData} {s : Nat}, Sz 92 0 k → s ≤ 20 → Sz 305000 2 (.tuple [k, .int (s : Nat), octD e.oct]) := fun hk hs => by
    have i := sz_int (i := ((_ : Nat) : Int)) (Nat.lt_of_le_of_lt (Nat.le_trans hs (show 20 ≤ 9999 by decide)) (by decide +kernel))
    exact sz_tup' (k := 1) (by rw [okVAll, okVAll, okVAll, okVAll, hk.ok, z.ok, i.ok]; rfl) (by rw [wVAll, wVAll, wVAll, wVAll]; have := hk.w; have := z.w; have := i.w; omega) (by rw [PyData.depthAll, PyData.depthAll, PyData.depthAll, PyData.depthAll]; have := hk.dp; have := z.dp; have := i.dp; omega)
  cases e with
  | tab i => exact two ⟨by decide, by decide, by decide⟩
  | blk s b => exact tri ⟨by decide, by decide, by decide⟩ ok.1
  | ans x => exact two ⟨by decide, by decide, by decide⟩
  | rawT ns => exact two ⟨by decide, by decide, by decide⟩
  | rawB s ns => exact tri ⟨by decide, by decide, by decide⟩ ok.1
  | rawA ns => exact two ⟨by decide, by decide, by decide⟩
/-! ### the check of an event, of a log -/
def dEv : PyData → Bool
  | .tuple [k, o] => [("table" : Str), "answer"].any (fun z => isS k z) && dOctets o
  | .tuple [k, s, o] => isS k "block" && (dBtw s 0 20 && dOctets o)
  | _ => false
def dLog : PyData → Bool
  | .list ds => decide (ds.length ≤ 40) && ds.all dEv
  | _ => false
theorem dEv_no {d : PyData} (e : subT (tyD d) "tuple" = false) : dEv d = false := by cases d <;> first | rfl | cases e
theorem dLog_no {d : PyData} (e : subT (tyD d) "list" = false) : dLog d = false := by cases d <;> first | rfl | cases e
theorem dEv_ne {ds : List PyData} (h2 : ds.length ≠ 2) (h3 : ds.length ≠ 3) : dEv (.tuple ds) = false := by
  match ds, h2, h3 with
  | [], _, _ => rfl
  | [_], _, _ => rfl
  | [_, _], h, _ => exact absurd rfl h
  | [_, _, _], _, h => exact absurd rfl h
  | _ :: _ :: _ :: _ :: _, _, _ => rfl
theorem Dv.asI {K : PySem.W.Frag} {H : Hp} {v : V} {d : PyData} (h : Dv K H v d) (e : subT (tyD d) "int" = true) (e2 : subT (tyD d) "bool" = false) : ∃ i, v = .int i ∧ d = .int i := by
  cases h <;> first | exact ⟨_, rfl, rfl⟩ | simp_all [tyD, subT]
theorem dBtw_no {d : PyData} {a b : Int} (e : subT (tyD d) "int" = false) : dBtw d a b = false := by
  cases d <;> simp_all [tyD, subT, dBtw]
theorem dBtw_bool {d : PyData} {a b : Int} (e : subT (tyD d) "bool" = true) : dBtw d a b = false := by
  cases d <;> simp_all [tyD, subT, dBtw]
theorem evK (z : Str) : inV (.str z) [.str "table", .str "answer", .str "block"] = (isS (.str z) "table" || (isS (.str z) "answer" || isS (.str z) "block")) := by
  have h : ∀ y : Str, decide (y = z) = isS (.str z) y := fun y => decide_eq_decide.mpr ⟨fun h => h.symm, fun h => h.symm⟩
  show (decide _ || (decide _ || (decide _ || false))) = _
  rw [h, h, h, Bool.or_false]
end Fld
/-! what the draws of logs promise -/
namespace Fld
open PySem PySem.Spec PyProof.Rows L2
section
variable {K : PySem.W.Frag} {p c l : Addr} {n : Nat} {H : Hp} {Q : VK} {xs : List V}
theorem pick_new (hp : Pen H p c n) (hl : H l = none) (ne : xs ≠ []) (hz : xs.length ≤ 1000) (hn : n ≤ 900000) (q : ∀ x H', x ∈ xs → Drew p c H H' (n + 1) → Q x H') : sp_law_one_of K [.ref p, .ref l] (upd H l (.lst xs)) Q E0 :=
  ⟨p, c, l, n, xs, rfl, hp.new hl, SqL.of upd_same, Ne.symm (hp.ne hl), ne, hz, hn, fun x H' hx d => q x H' hx ⟨d.pen, (But.new hl).trans d.but⟩⟩
theorem take_n {R : Int → Hp → Prop} (k : Nat) (hp : Pen H p c n) (h0 : 0 < k) (h1 : k < 1073741824) (hn : n ≤ 900000) (q : ∀ (r : Nat) H', r < k → Drew p c H H' (n + 1) → R ((r : Nat) : Int) H') :
    ∃ (p' c' : Addr) (n' : Nat) (k' : Int), [V.ref p, V.int (k : Nat)] = [V.ref p', V.int k'] ∧ Pen H p' c' n' ∧ 0 < k' ∧ k' < 1073741824 ∧ n' ≤ 900000 ∧ ∀ (r : Int) H', 0 ≤ r → r < k' → Drew p' c' H H' (n' + 1) → R r H' :=
  ⟨p, c, n, k, rfl, hp, by omega, by omega, hn, fun r H' a b d => by
    obtain ⟨r', rfl⟩ : ∃ k' : Nat, r = (k' : Int) := ⟨r.toNat, by omega⟩
    exact q r' H' (by omega) d⟩
end
theorem runT_made {F : List Fd} {r : Nat} : ∀ {is : List Ins} {t u : Tb} {k : Nat}, runT F r t k is = .ok u → u.made ≤ t.made + is.length
  | [], t, u, k, e => by
    rw [runT] at e; cases e; exact Nat.le_refl _
  | i :: is, t, u, k, e => by
    rw [runT] at e
    cases hs : stepT F r t i with
    | none => rw [hs] at e; cases e
    | some t' =>
      rw [hs] at e
      have h1 := runT_made (is := is) e
      have h2 := step_made hs
      rw [List.length_cons]; omega
theorem stO_ok {F : List Fd} {r : Nat} (hr : r ≤ 120) (hF : ∀ f ∈ F, FdOk f) {is : List Ins} (hi : ∀ i ∈ is, i.Ok) {t : Tb} (h : stO F r is = some t) : TbOk r t ∧ t.made ≤ is.length := by
  have e := stO_run h
  refine ⟨runT_ok hF (tb0_ok hr) hi e, ?_⟩
  have := runT_made e
  have z : (tb0 r).made = 0 := rfl
  omega
def sp_u_setting (K : PySem.W.Frag) : Sp := fun vs H Q _ => ∃ (p c : Addr) (n : Nat), vs = [.ref p] ∧ Pen H p c n ∧ n ≤ 600000 ∧
  ∀ (a t : Addr) (xs : List V) F r w H', SqT K H' a [.ref t, .int (r : Nat), .int (w : Nat)] → SqT K H' t xs → FdsV K H' xs F → SetOk F r w → r ≤ 40 → F.length ≤ 3 → Drew p c H H' (n + 3) → Q (.ref a) H'
def sp_u_behind (K : PySem.W.Frag) : Sp := fun vs H Q _ => ∃ (sv : V) (L : Addr) (F : List Fd) (r w : Nat) (xs : List V) (is : List Ins), vs = [sv, .ref L] ∧ SetV K H sv F r w ∧ SetOk F r w ∧ SqL K H L xs ∧ InssV K H xs is ∧ (∀ i ∈ is, i.Ok) ∧ is.length ≤ 1000 ∧
  (∀ t, stO F r is = some t → ∀ D q H', H D = none → H q = none → Same H H' → H' q = some (.tup [.int (t.made : Nat), .ref D]) → EntV K H' D t.es → Q (.ref q) H') ∧ (stO F r is = none → ∀ H', Same H H' → Q .non H')
def sp_u_ins (K : PySem.W.Frag) : Sp := fun vs H Q _ => ∃ (p c D : Addr) (n : Nat) (sv : V) (F : List Fd) (r w : Nat) (t : Tb), vs = [.ref p, sv, .int (t.made : Nat), .ref D] ∧ Pen H p c n ∧ n ≤ 600000 ∧ SetV K H sv F r w ∧ SetOk F r w ∧ EntV K H D t.es ∧ TbOk r t ∧ t.made ≤ 9000 ∧
  ∀ v i H', InsV K H' v i → i.Ok → Drew p c H H' (n + 10) → Q v H'
theorem name_of {x : V} (h : x ∈ [V.str "a", .str "b", .str "cc"]) : ∃ z : Str, x = .str z ∧ txt (.str z) 1 20 = true := by
  simp only [List.mem_cons, List.not_mem_nil, or_false] at h
  rcases h with h | h | h
  · exact ⟨"a", h, by decide +kernel⟩
  · exact ⟨"b", h, by decide +kernel⟩
  · exact ⟨"cc", h, by decide +kernel⟩
theorem value_of {x : V} (h : x ∈ [V.str "", .str "x", .str "yy", .str "x"]) : ∃ z : Str, x = .str z ∧ txt (.str z) 0 40 = true := by
  simp only [List.mem_cons, List.not_mem_nil, or_false] at h
  rcases h with h | h | h | h
  · exact ⟨"", h, by decide +kernel⟩
  · exact ⟨"x", h, by decide +kernel⟩
  · exact ⟨"yy", h, by decide +kernel⟩
  · exact ⟨"x", h, by decide +kernel⟩
theorem Drew.then {p c : Addr} {H H1 H2 : Hp} {n m : Nat} (a : But p H H1) (b : Drew p c H1 H2 m) : Drew p c H H2 m := ⟨b.pen, a.trans b.but⟩
end Fld
namespace Fld
open PySem PySem.Spec PyProof.Rows L2
def natV (ks : List Nat) : List V := ks.map fun (k : Nat) => V.int (k : Nat)
def natD (ks : List Nat) : List PyData := ks.map fun (k : Nat) => PyData.int (k : Nat)
theorem natV_len (ks : List Nat) : (natV ks).length = ks.length := List.length_map ..
theorem dp_nats {K : PySem.W.Frag} {H : Hp} : ∀ ks : List Nat, DpAll K H (natV ks) (natD ks)
  | [] => .nil
  | n :: r => .cons (.int _) (dp_nats r)
theorem nats_shaped (ks : List Nat) : SeqAt.shaped (.list (natD ks)) = true := by
  have h : ∀ ks : List Nat, PyData.canLayAll0 (natD ks) = true ∧ PyData.depthAll (natD ks) ≤ 0 := by
    intro ks
    induction ks with
    | nil => exact ⟨by rw [natD, List.map_nil, PyData.canLayAll0], by rw [natD, List.map_nil, PyData.depthAll]; omega⟩
    | cons k r ih =>
      refine ⟨?_, ?_⟩
      · show PyData.canLayAll0 (.int (k : Nat) :: natD r) = true
        rw [PyData.canLayAll0, PyData.canLay0, ih.1]; rfl
      · show PyData.depthAll (.int (k : Nat) :: natD r) ≤ 0
        rw [PyData.depthAll, PyData.depth]; have := ih.2; omega
  have h1 := h ks
  show (PyData.canLay0 (.list (natD ks)) && decide (PyData.depth (.list (natD ks)) ≤ 64)) = true
  rw [PyData.canLay0, h1.1, PyData.depth, decide_eq_true (by have := h1.2; omega)]
  rfl
def lnReq : Ln → Nat
  | .ent1 n => n + 1
  | .ent2 n _ => n + 1
  | _ => 0
theorem ln_okreq {l : Ln} {r R : Nat} (h : l.Ok R) (hr : lnReq l ≤ r) : l.Ok r := by
  cases l with
  | fix1 n => exact h
  | fix2 n x => exact h
  | ent1 n => have hr' : n + 1 ≤ r := hr; show n < r; omega
  | ent2 n x => have hr' : n + 1 ≤ r := hr; exact ⟨by show n < r; omega, h.2⟩
  | out y x => exact h
def sp_u_block (K : PySem.W.Frag) : Sp := fun vs H Q _ => ∃ (p c e : Addr) (n cnt : Nat) (sv : V) (ks : List Nat), vs = [.ref p, sv, .ref e, .int (cnt : Nat)] ∧ Pen H p c n ∧ n ≤ 600000 ∧ SqL K H e (natV ks) ∧ e ≠ p ∧ (∀ k ∈ ks, k ≤ 9000) ∧ ks.length ≤ 1000 ∧ cnt ≤ 9000 ∧
  ∀ v b H', BlkV K H' v b → b.Ok → b.ls.length ≤ 3 → Drew p c H H' (n + 30) → Q v H'
theorem value_of3 {x : V} (h : x ∈ [V.str "", .str "x", .str "yy"]) : ∃ z : Str, x = .str z ∧ txt (.str z) 0 40 = true := by
  simp only [List.mem_cons, List.not_mem_nil, or_false] at h
  rcases h with h | h | h
  · exact ⟨"", h, by decide +kernel⟩
  · exact ⟨"x", h, by decide +kernel⟩
  · exact ⟨"yy", h, by decide +kernel⟩
end Fld
/-! events under way -/
namespace Fld
open PySem PySem.Spec PyProof.Rows L2
section
variable {K : PySem.W.Frag} {S : List Addr} {H : Hp} {l t : Addr} {xs ys : List V} {ds es : List PyData} {vs : List V} {evs : List Evt} {ns : List Int}
theorem offT (hq : H t = none) (hS : Hid S H) : SqT K (OffS S (upd H t (.tup xs))) t xs := SqT.of (off_new hq hS)
theorem offL (hq : H t = none) (hS : Hid S H) : SqL K (OffS S (upd H t (.lst xs))) t xs := SqL.of (off_new hq hS)
theorem lay_rawT (e : xs = ns.map V.int) (hl : H l = none) (ht : upd H l (.lst xs) t = none) (hS : Hid S H) (A : EvtsV K (OffS S H) vs evs) :
    Same H (upd (upd H l (.lst xs)) t (.tup [.str "table", .ref l])) ∧ Hid S (upd (upd H l (.lst xs)) t (.tup [.str "table", .ref l])) ∧ EvtsV K (OffS S (upd (upd H l (.lst xs)) t (.tup [.str "table", .ref l]))) (.ref t :: vs) (.rawT ns :: evs) := by
  have s1 := Same.new (o := .lst xs) hl
  have s2 := Same.new (o := .tup [.str "table", .ref l]) ht
  have h1 := hS.keep s1
  exact ⟨s1.trans s2, h1.keep s2, .cons ⟨t, l, rfl, offT ht h1, s2.off.seq (e ▸ offL hl hS)⟩ (EvtsV.keep (s1.trans s2).off A)⟩
theorem lay_rawB {k : Nat} (e : xs = ns.map V.int) (hl : H l = none) (ht : upd H l (.lst xs) t = none) (hS : Hid S H) (A : EvtsV K (OffS S H) vs evs) :
    Same H (upd (upd H l (.lst xs)) t (.tup [.str "block", .int (k : Nat), .ref l])) ∧ Hid S (upd (upd H l (.lst xs)) t (.tup [.str "block", .int (k : Nat), .ref l])) ∧ EvtsV K (OffS S (upd (upd H l (.lst xs)) t (.tup [.str "block", .int (k : Nat), .ref l]))) (.ref t :: vs) (.rawB k ns :: evs) := by
  have s1 := Same.new (o := .lst xs) hl
  have s2 := Same.new (o := .tup [.str "block", .int (k : Nat), .ref l]) ht
  have h1 := hS.keep s1
  exact ⟨s1.trans s2, h1.keep s2, .cons ⟨t, l, rfl, offT ht h1, s2.off.seq (e ▸ offL hl hS)⟩ (EvtsV.keep (s1.trans s2).off A)⟩
end
/-- the draw of events under way: C what was carried out, G what was found -/
structure EvSt (K : PySem.W.Frag) (p c C G : Addr) (n : Nat) (F : List Fd) (r : Nat) (H H' : Hp) (i : Nat) : Prop where
  pen : Pen H' p c (n + 50 * i)
  but : But p H H'
  ex : ∃ cs is xs es t, H' C = some (.lst cs) ∧ H' G = some (.lst xs) ∧ InssV K H' cs is ∧ (∀ j ∈ is, j.Ok) ∧ is.length ≤ i ∧ stO F r is = some t ∧ EvtsV K (OffS [C, G, p] H') xs es ∧ (∀ e ∈ es, e.Ok) ∧ es.length ≤ i
section
variable {K : PySem.W.Frag} {p c C G : Addr} {n N : Nat} {F : List Fd} {r i : Nat} {H H' : Hp} {cs xs : List V} {is : List Ins} {es : List Evt} {t : Tb} {v : V} {e : Evt}
theorem ev_add (hGp : G ≠ p) (hGc : G ≠ c) (hCG : C ≠ G) (hG : H G = none) (P : Pen H' p c N) (hN : N ≤ n + 50 * (i + 1)) (b : But p H H') (gC : H' C = some (.lst cs)) (gG : H' G = some (.lst xs)) (hI : InssV K H' cs is) (okI : ∀ j ∈ is, j.Ok) (lI : is.length ≤ i + 1) (st : stO F r is = some t)
    (hE : EvtsV K (OffS [C, G, p] H') xs es) (okE : ∀ e ∈ es, e.Ok) (lE : es.length ≤ i) (hv : EvtV K (OffS [C, G, p] H') v e) (oke : e.Ok) : EvSt K p c C G n F r H (upd H' G (.lst (xs ++ [v]))) (i + 1) := by
  have o := off_hid (H := H') (o := .lst (xs ++ [v])) (show G ∈ [C, G, p] by simp)
  refine ⟨(penL P hGp hGc).mono hN, b.put hG, cs, is, xs ++ [v], es ++ [e], t, by rw [upd_ne hCG]; exact gC, upd_same, hI.ts (TS.at gG nt_lst), okI, lI, st, p_app (EvtsV.keep o hE) (.cons (EvtV.keep o hv) .nil), fun x hx => ?_, by rw [List.length_append]; show es.length + 1 ≤ i + 1; omega⟩
  rcases List.mem_append.mp hx with h | h
  · exact okE x h
  · rw [List.mem_singleton.mp h]; exact oke
theorem ev_stay (P : Pen H' p c N) (hN : N ≤ n + 50 * (i + 1)) (b : But p H H') (gC : H' C = some (.lst cs)) (gG : H' G = some (.lst xs)) (hI : InssV K H' cs is) (okI : ∀ j ∈ is, j.Ok) (lI : is.length ≤ i + 1) (st : stO F r is = some t)
    (hE : EvtsV K (OffS [C, G, p] H') xs es) (okE : ∀ e ∈ es, e.Ok) (lE : es.length ≤ i) : EvSt K p c C G n F r H H' (i + 1) :=
  ⟨P.mono hN, b, cs, is, xs, es, t, gC, gG, hI, okI, lI, st, hE, okE, by omega⟩
end
theorem p_mem {α β : Type} {R : α → β → Prop} {xs : List α} {ys : List β} {x : α} (h : Paired R xs ys) (hx : x ∈ xs) : ∃ y ∈ ys, R x y := by
  obtain ⟨i, hi⟩ := List.getElem?_of_mem hx
  obtain ⟨y, hy, hr⟩ := p_at h hi
  exact ⟨y, List.mem_of_getElem? hy, hr⟩
def sp_u_events (K : PySem.W.Frag) : Sp := fun vs H Q _ => ∃ (p c : Addr) (n m : Nat) (sv : V) (F : List Fd) (r w : Nat), vs = [.ref p, sv, .int (m : Nat)] ∧ Pen H p c n ∧ n ≤ 300000 ∧ m ≤ 60 ∧ SetV K H sv F r w ∧ SetOk F r w ∧
  ∀ a xs es H', H a = none → a ≠ p → H' a = some (.lst xs) → EvtsV K (OffS [p] H') xs es → (∀ e ∈ es, e.Ok) → es.length ≤ m → Drew p c H H' (n + 50 * m) → Q (.ref a) H'
end Fld
namespace Fld
open PySem PySem.Spec PyProof.Rows L2
def sp_u_octets (K : PySem.W.Frag) : Sp := fun vs H Q _ => ∃ (v : V) (e : Evt), vs = [v] ∧ EvtV K H v e ∧ e.Ok ∧
  ∀ a L H', H a = none → H L = none → Same H H' → H' a = some (.tup (e.vs L)) → H' L = some (.lst (e.oct.map V.int)) → Q (.ref a) H'
theorem lev_off {K : PySem.W.Frag} {S : List Addr} {H H' : Hp} {a L : Addr} {e : Evt} (hS : Hid S H) (ha : H a = none) (hL : H L = none) (ga : H' a = some (.tup (e.vs L))) (gL : H' L = some (.lst (e.oct.map V.int))) : LEv K (OffS S H') (.ref a) e :=
  ⟨a, L, rfl, SqT.of (by rw [off_ne (hS.not ha)]; exact ga), SqL.of (by rw [off_ne (hS.not hL)]; exact gL)⟩
abbrev LEvs (K : PySem.W.Frag) (H : Hp) (xs : List V) (es : List Evt) : Prop := Paired (LEv K H) xs es
theorem LEvs.keep {K : PySem.W.Frag} {H H' : Hp} {xs : List V} {es : List Evt} (s : Same H H') (h : LEvs K H xs es) : LEvs K H' xs es := pmap (fun _ _ z => LEv.keep s z) h
theorem LEvs.dv {K : PySem.W.Frag} {H : Hp} : ∀ {xs : List V} {es : List Evt}, LEvs K H xs es → DvAll K H xs (es.map Evt.dat)
  | _, _, .nil => .nil
  | _, _, .cons h t => .cons h.dv (LEvs.dv t)
def sp_u_log (K : PySem.W.Frag) : Sp := fun vs H Q _ => ∃ (L : Addr) (xs : List V) (es : List Evt) (S : List Addr), vs = [.ref L] ∧ Hid S H ∧ H L = some (.lst xs) ∧ EvtsV K (OffS S H) xs es ∧ (∀ e ∈ es, e.Ok) ∧ es.length ≤ 60 ∧
  ∀ D ys H', H D = none → Same H H' → H' D = some (.lst ys) → LEvs K (OffS S H') ys es → Q (.ref D) H'
theorem book_sz {es : List Evt} (ok : ∀ e ∈ es, e.Ok) (hl : es.length ≤ 14) : Sz 4300000 3 (.list (es.map Evt.dat)) := by
  have h := sz_many (b := 305000) (k := 2) (ds := es.map Evt.dat) fun d hd => by
    obtain ⟨e, he, rfl⟩ := List.mem_map.mp hd
    exact evt_sz (ok e he)
  rw [List.length_map] at h
  exact sz_lst' h.1 (by have := h.2.1; omega) h.2.2
end Fld
namespace Fld
open PySem PySem.Spec PyProof.Rows L2
section
variable {K : PySem.W.Frag} {S : List Addr} {H : Hp} {q : Addr} {ys : List V} {es : List PyData}
theorem layT (hq : H q = none) (hS : Hid S H) (it : DvAll K (OffS S H) ys es) : Same H (upd H q (.tup ys)) ∧ Hid S (upd H q (.tup ys)) ∧ Dv K (OffS S (upd H q (.tup ys))) (.ref q) (.tuple es) := ⟨Same.new hq, hS.keep (Same.new hq), new_tup hq hS it⟩
theorem layL (hq : H q = none) (hS : Hid S H) (it : DvAll K (OffS S H) ys es) : Same H (upd H q (.lst ys)) ∧ Hid S (upd H q (.lst ys)) ∧ Dv K (OffS S (upd H q (.lst ys))) (.ref q) (.list es) := ⟨Same.new hq, hS.keep (Same.new hq), new_lst hq hS it⟩
theorem layD (hq : H q = none) (hS : Hid S H) : Same H (upd H q (.dK [])) ∧ Hid S (upd H q (.dK [])) ∧ Dv K (OffS S (upd H q (.dK []))) (.ref q) (.dict []) := ⟨Same.new hq, hS.keep (Same.new hq), new_dic hq hS⟩
end
def sp_u_bent (K : PySem.W.Frag) : Sp := fun vs H Q _ => ∃ (p c a : Addr) (n : Nat) (xs : List V) (ds : List PyData) (S : List Addr), vs = [.ref p, .ref a] ∧ Pen H p c n ∧ n ≤ 600000 ∧ p ∈ S ∧ a ∉ S ∧ Hid S H ∧ H a = some (.lst xs) ∧ DvAll K (OffS S H) xs ds ∧ Sz 4300000 3 (.list ds) ∧ ds.length ≤ 14 ∧
  ∀ (v' : V) (d' : PyData) H', Dv K (OffS S H') v' d' → Sz 9000000 5 d' → Drew p c H H' (n + 10) → Q v' H'
end Fld
namespace Fld
open PySem PySem.Spec PyProof.Rows L2
section
variable {K : PySem.W.Frag} {S : List Addr} {H : Hp} {q a b c p : Addr} {xs ys : List V} {ds es : List PyData} {n : Nat} {cc : Addr}
/-- a list laid, its items kept -/
theorem layM (hq : H q = none) (hS : Hid S H) (it : DvAll K (OffS S H) ys es) : Same H (upd H q (.lst ys)) ∧ Hid S (upd H q (.lst ys)) ∧ upd H q (.lst ys) q = some (.lst ys) ∧ DvAll K (OffS S (upd H q (.lst ys))) ys es :=
  ⟨Same.new hq, hS.keep (Same.new hq), upd_same, it.keep (Same.new hq).off⟩
/-- a sum of two lists laid -/
theorem layS (A : DvAll K (OffS S H) xs ds) (hb : H b = none) (hS : Hid S H) (it : DvAll K (OffS S H) ys es) (hc : upd H b (.lst ys) c = none) :
    Same H (upd (upd H b (.lst ys)) c (.lst (xs ++ ys))) ∧ Hid S (upd (upd H b (.lst ys)) c (.lst (xs ++ ys))) ∧ upd (upd H b (.lst ys)) c (.lst (xs ++ ys)) c = some (.lst (xs ++ ys)) ∧ DvAll K (OffS S (upd (upd H b (.lst ys)) c (.lst (xs ++ ys)))) (xs ++ ys) (ds ++ es) := by
  have s := (Same.new (o := .lst ys) hb).trans (Same.new (o := .lst (xs ++ ys)) hc)
  exact ⟨s, hS.keep s, upd_same, (A.app it).keep s.off⟩
/-- the same; the sum is hidden from here on, as it is to turn -/
theorem layH (A : DvAll K (OffS S H) xs ds) (hb : H b = none) (hS : Hid S H) (it : DvAll K (OffS S H) ys es) (hc : upd H b (.lst ys) c = none) :
    Same H (upd (upd H b (.lst ys)) c (.lst (xs ++ ys))) ∧ Hid (c :: S) (upd (upd H b (.lst ys)) c (.lst (xs ++ ys))) ∧ upd (upd H b (.lst ys)) c (.lst (xs ++ ys)) c = some (.lst (xs ++ ys)) ∧
      Same (OffS S H) (OffS (c :: S) (upd (upd H b (.lst ys)) c (.lst (xs ++ ys)))) ∧ DvAll K (OffS (c :: S) (upd (upd H b (.lst ys)) c (.lst (xs ++ ys)))) (xs ++ ys) (ds ++ es) := by
  have s1 := Same.new (o := .lst ys) hb
  have s2 := Same.new (o := .lst (xs ++ ys)) hc
  have o := (s1.off (S := S)).trans ((off_more hc).trans (s2.off (S := c :: S)))
  exact ⟨s1.trans s2, (hS.keep (s1.trans s2)).cons (by rw [upd_same]; exact fun z => nomatch z), upd_same, o, (A.app it).keep o⟩
theorem Hid.less (h : Hid (c :: S) H) : Hid S H := fun b hb => h b (List.mem_cons_of_mem _ hb)
end
end Fld
namespace Fld
open PySem PySem.Spec PyProof.Rows L2
/-- a list of what is drawn from, under way at L -/
def SomeI (K : PySem.W.Frag) (p c : Addr) (S : List Addr) (H H' : Hp) (N m : Nat) (L : Addr) : Prop := Drew p c H H' N ∧ L ≠ p ∧ L ≠ c ∧ H L = none ∧
  ∃ zs des, H' L = some (.lst zs) ∧ Hid (L :: S) H' ∧ DvAll K (OffS (L :: S) H') zs des ∧ (∀ d ∈ des, Sz 6000 3 d) ∧ zs.length = m
theorem sz_const {d : PyData} (h1 : okV d = true) (h2 : wV d ≤ 6000) (h3 : d.depth ≤ 3) : Sz 6000 3 d := ⟨h1, h2, h3⟩
section
variable {K : PySem.W.Frag} {S : List Addr} {H H0 : Hp} {q b c p cc L : Addr} {xs ys : List V} {ds es : List PyData} {n N m : Nat}
theorem someI_new (D : Drew p cc H0 H N) (hS : Hid S H) (hq : H q = none) (it : DvAll K (OffS S H) ys es) (z : ∀ d ∈ es, Sz 6000 3 d) : SomeI K p cc S H0 (upd H q (.lst ys)) N ys.length q := by
  have s := Same.new (o := .lst ys) hq
  have hp := Ne.symm (D.pen.ne hq)
  exact ⟨D.keep s, hp, Ne.symm (D.pen.nec hq), D.but.none hp hq, ys, es, upd_same, (hS.keep s).cons (by rw [upd_same]; exact fun z => nomatch z), it.keep ((off_more hq).trans (s.off (S := q :: S))), z, rfl⟩
theorem someI_sum (A : DvAll K (OffS S H) xs ds) (zA : ∀ d ∈ ds, Sz 6000 3 d) (hm : xs.length = m) (D : Drew p cc H0 H N) (hb : H b = none) (hS : Hid S H) (it : DvAll K (OffS S H) ys es) (z : ∀ d ∈ es, Sz 6000 3 d) (hc : upd H b (.lst ys) c = none) :
    SomeI K p cc S H0 (upd (upd H b (.lst ys)) c (.lst (xs ++ ys))) N (m + ys.length) c := by
  have s := Same.new (o := .lst ys) hb
  have h := someI_new (K := K) (q := c) (ys := xs ++ ys) (es := ds ++ es) (D.keep s) (hS.keep s) hc ((A.app it).keep s.off) fun d hd => by
    rcases List.mem_append.mp hd with h | h
    · exact zA d h
    · exact z d h
  rw [List.length_append, hm] at h
  exact h
end
end Fld
namespace Fld
open PySem PySem.Spec PyProof.Rows L2
theorem sz_od {k od : PyData} (zoc : Sz 3200 2 od) (h1 : okV k = true) (h2 : wV k ≤ 92) (h3 : k.depth ≤ 0) : Sz 6000 3 (.tuple [k, od]) :=
  sz_tup' (k := 2) (by rw [okVAll, okVAll, okVAll, h1, zoc.ok]; rfl) (by rw [wVAll, wVAll, wVAll]; have := zoc.w; omega) (by rw [PyData.depthAll, PyData.depthAll, PyData.depthAll]; have := zoc.dp; omega)
theorem sz_3 {a b d : PyData} {x y z : Nat} (ha : Sz x 0 a) (hb : Sz y 0 b) (hd : Sz z 2 d) (hw : x + y + z ≤ 5900) : Sz 6000 3 (.tuple [a, b, d]) :=
  sz_tup' (k := 2) (by rw [okVAll, okVAll, okVAll, okVAll, ha.ok, hb.ok, hd.ok]; rfl) (by rw [wVAll, wVAll, wVAll, wVAll]; have := ha.w; have := hb.w; have := hd.w; omega) (by rw [PyData.depthAll, PyData.depthAll, PyData.depthAll, PyData.depthAll]; have := ha.dp; have := hb.dp; have := hd.dp; omega)
theorem sz_bkS : Sz 52 0 (.str "block") := ⟨by decide, by decide, by decide⟩
theorem sz_od3 {od : PyData} (zoc : Sz 3200 2 od) : Sz 6000 3 (.tuple [.str "block", .int 3, od]) := sz_3 sz_bkS (sz_int (i := 3)) zoc (by decide)
theorem sz_bk {k : Nat} (hk : k ≤ 9999) : Sz 6000 3 (.tuple [.str "block", .int (k : Nat), .list [.int 1]]) :=
  sz_3 (z := 1016) sz_bkS (sz_int (i := ((k : Nat) : Int)) (Nat.lt_of_le_of_lt (show k ≤ 9999 from hk) (by decide +kernel))) ⟨by decide +kernel, by decide, by decide⟩ (by decide)
end Fld
namespace Fld
open PySem PySem.Spec PyProof.Rows L2
def lstLe : PyData → Bool
  | .list ds => decide (ds.length ≤ 40)
  | _ => false
theorem lstLe_no {d : PyData} (e : subT (tyD d) "list" = false) : lstLe d = false := by cases d <;> first | rfl | cases e
theorem dLog_le {d : PyData} (e : lstLe d = false) : dLog d = false := by
  cases d <;> first | rfl | skip
  rename_i ds
  show (decide (ds.length ≤ 40) && _) = false
  rw [show decide (ds.length ≤ 40) = false from e]; rfl
theorem lstLe_of {d : PyData} (e : lstLe d = true) : ∃ ds, d = .list ds ∧ ds.length ≤ 40 := by
  cases d <;> first | cases e | skip
  rename_i ds
  exact ⟨ds, rfl, of_decide_eq_true e⟩
end Fld
namespace Fld
open PySem PySem.Spec PyProof.Rows L2
/-! ### the text by places -/
def top (i : Nat) : Stmt := PySem.Challenge.pw_fieldtable_k63_logs_known.main.body.getD i (.Pass ⟨0, 0, 0, 0⟩)
abbrev s_wall : Stmt := top 0
abbrev s_BadTable_init : Stmt := inClass (top 5) 0
abbrev s_is_between : Stmt := top 16
abbrev s_is_number : Stmt := top 17
abbrev s_is_stream : Stmt := top 18
abbrev s_is_text : Stmt := top 19
abbrev s_is_name : Stmt := top 20
abbrev s_is_value : Stmt := top 21
abbrev s_is_field : Stmt := top 22
abbrev s_is_tuple_of_fields : Stmt := top 23
abbrev s_is_setting : Stmt := top 24
abbrev s_are_octets : Stmt := top 25
abbrev s_check_setting : Stmt := top 26
abbrev s_check_prefix : Stmt := top 27
abbrev s_prefix_bits : Stmt := top 28
abbrev s_number_octets : Stmt := top 29
abbrev s_string_octets : Stmt := top 30
abbrev s_value_octets : Stmt := top 31
abbrev s_is_instruction : Stmt := top 33
abbrev s_write_instruction : Stmt := top 34
abbrev s_source_octets : Stmt := top 35
abbrev s_is_answer : Stmt := top 36
abbrev s_write_answer : Stmt := top 37
abbrev s_is_line : Stmt := top 40
abbrev s_is_block : Stmt := top 41
abbrev s_write_block : Stmt := top 42
abbrev s_line_octets : Stmt := top 43
abbrev s_whole_octets : Stmt := top 44
abbrev s_named_octets : Stmt := top 45
abbrev s_run_table : Stmt := top 48
abbrev s_said_field : Stmt := top 49
abbrev s_referred : Stmt := top 50
abbrev s_entry_size : Stmt := top 51
abbrev s_Table_init : Stmt := inClass (top 52) 0
abbrev s_Table_copied : Stmt := inClass (top 52) 1
abbrev s_Table_carry_out : Stmt := inClass (top 52) 2
abbrev s_Table_set_bound : Stmt := inClass (top 52) 3
abbrev s_Table_inserted : Stmt := inClass (top 52) 4
abbrev s_Table_has_room : Stmt := inClass (top 52) 5
abbrev s_Table_leaving : Stmt := inClass (top 52) 6
abbrev s_Table_drop : Stmt := inClass (top 52) 7
abbrev s_is_event : Stmt := top 55
abbrev s_is_log : Stmt := top 56
abbrev s_law_spread : Stmt := top 58
abbrev s_law_open : Stmt := top 59
abbrev s_law_take : Stmt := top 60
abbrev s_law_u_pick : Stmt := top 61
abbrev s_law_u_behind : Stmt := top 62
abbrev s_law_u_octets : Stmt := top 63
abbrev s_law_u_log : Stmt := top 64
abbrev s_law_u_setting : Stmt := top 65
abbrev s_law_u_instruction : Stmt := top 66
abbrev s_law_u_block : Stmt := top 67
abbrev s_law_u_events : Stmt := top 68
abbrev s_law_u_are_octets : Stmt := top 69
abbrev s_law_u_is_event : Stmt := top 70
abbrev s_law_u_bent : Stmt := top 71
abbrev s_law : Stmt := top 72
/-- what the top has written -/
structure Txt (K : PySem.W.Frag) (mg : Str → Option Value) where
  f_wall : Addr
  d_wall : FuncData
  F_wall : Fun K "_wall" "_wall" s_wall f_wall d_wall
  b_wall : Binds K d_wall ["k"] []
  g_wall : mg "_wall" = some (.ref f_wall)
  f_BadTable_init : Addr
  d_BadTable_init : FuncData
  F_BadTable_init : Fun K "__init__" "BadTable.__init__" s_BadTable_init f_BadTable_init d_BadTable_init
  b_BadTable_init : Binds K d_BadTable_init ["self", "number"] []
  f_is_between : Addr
  d_is_between : FuncData
  F_is_between : Fun K "is_between" "is_between" s_is_between f_is_between d_is_between
  b_is_between : Binds K d_is_between ["thing", "least", "most"] []
  g_is_between : mg "is_between" = some (.ref f_is_between)
  f_is_number : Addr
  d_is_number : FuncData
  F_is_number : Fun K "is_number" "is_number" s_is_number f_is_number d_is_number
  b_is_number : Binds K d_is_number ["thing"] []
  g_is_number : mg "is_number" = some (.ref f_is_number)
  f_is_stream : Addr
  d_is_stream : FuncData
  F_is_stream : Fun K "is_stream" "is_stream" s_is_stream f_is_stream d_is_stream
  b_is_stream : Binds K d_is_stream ["thing"] []
  g_is_stream : mg "is_stream" = some (.ref f_is_stream)
  f_is_text : Addr
  d_is_text : FuncData
  F_is_text : Fun K "is_text" "is_text" s_is_text f_is_text d_is_text
  b_is_text : Binds K d_is_text ["thing", "least", "most"] []
  g_is_text : mg "is_text" = some (.ref f_is_text)
  f_is_name : Addr
  d_is_name : FuncData
  F_is_name : Fun K "is_name" "is_name" s_is_name f_is_name d_is_name
  b_is_name : Binds K d_is_name ["thing"] []
  g_is_name : mg "is_name" = some (.ref f_is_name)
  f_is_value : Addr
  d_is_value : FuncData
  F_is_value : Fun K "is_value" "is_value" s_is_value f_is_value d_is_value
  b_is_value : Binds K d_is_value ["thing"] []
  g_is_value : mg "is_value" = some (.ref f_is_value)
  f_is_field : Addr
  d_is_field : FuncData
  F_is_field : Fun K "is_field" "is_field" s_is_field f_is_field d_is_field
  b_is_field : Binds K d_is_field ["thing"] []
  g_is_field : mg "is_field" = some (.ref f_is_field)
  f_is_tuple_of_fields : Addr
  d_is_tuple_of_fields : FuncData
  F_is_tuple_of_fields : Fun K "is_tuple_of_fields" "is_tuple_of_fields" s_is_tuple_of_fields f_is_tuple_of_fields d_is_tuple_of_fields
  b_is_tuple_of_fields : Binds K d_is_tuple_of_fields ["thing", "most"] []
  g_is_tuple_of_fields : mg "is_tuple_of_fields" = some (.ref f_is_tuple_of_fields)
  f_is_setting : Addr
  d_is_setting : FuncData
  F_is_setting : Fun K "is_setting" "is_setting" s_is_setting f_is_setting d_is_setting
  b_is_setting : Binds K d_is_setting ["thing"] []
  g_is_setting : mg "is_setting" = some (.ref f_is_setting)
  f_are_octets : Addr
  d_are_octets : FuncData
  F_are_octets : Fun K "are_octets" "are_octets" s_are_octets f_are_octets d_are_octets
  b_are_octets : Binds K d_are_octets ["thing"] []
  g_are_octets : mg "are_octets" = some (.ref f_are_octets)
  f_check_setting : Addr
  d_check_setting : FuncData
  F_check_setting : Fun K "check_setting" "check_setting" s_check_setting f_check_setting d_check_setting
  b_check_setting : Binds K d_check_setting ["setting"] []
  g_check_setting : mg "check_setting" = some (.ref f_check_setting)
  f_check_prefix : Addr
  d_check_prefix : FuncData
  F_check_prefix : Fun K "check_prefix" "check_prefix" s_check_prefix f_check_prefix d_check_prefix
  b_check_prefix : Binds K d_check_prefix ["prefix", "mark"] []
  g_check_prefix : mg "check_prefix" = some (.ref f_check_prefix)
  f_prefix_bits : Addr
  d_prefix_bits : FuncData
  F_prefix_bits : Fun K "prefix_bits" "prefix_bits" s_prefix_bits f_prefix_bits d_prefix_bits
  b_prefix_bits : Binds K d_prefix_bits ["prefix"] []
  g_prefix_bits : mg "prefix_bits" = some (.ref f_prefix_bits)
  f_number_octets : Addr
  d_number_octets : FuncData
  F_number_octets : Fun K "number_octets" "number_octets" s_number_octets f_number_octets d_number_octets
  b_number_octets : Binds K d_number_octets ["number", "prefix", "mark"] []
  g_number_octets : mg "number_octets" = some (.ref f_number_octets)
  f_string_octets : Addr
  d_string_octets : FuncData
  F_string_octets : Fun K "string_octets" "string_octets" s_string_octets f_string_octets d_string_octets
  b_string_octets : Binds K d_string_octets ["text", "prefix", "mark"] []
  g_string_octets : mg "string_octets" = some (.ref f_string_octets)
  f_value_octets : Addr
  d_value_octets : FuncData
  F_value_octets : Fun K "value_octets" "value_octets" s_value_octets f_value_octets d_value_octets
  b_value_octets : Binds K d_value_octets ["value"] []
  g_value_octets : mg "value_octets" = some (.ref f_value_octets)
  f_is_instruction : Addr
  d_is_instruction : FuncData
  F_is_instruction : Fun K "is_instruction" "is_instruction" s_is_instruction f_is_instruction d_is_instruction
  b_is_instruction : Binds K d_is_instruction ["thing"] []
  g_is_instruction : mg "is_instruction" = some (.ref f_is_instruction)
  f_write_instruction : Addr
  d_write_instruction : FuncData
  F_write_instruction : Fun K "write_instruction" "write_instruction" s_write_instruction f_write_instruction d_write_instruction
  b_write_instruction : Binds K d_write_instruction ["instruction"] []
  g_write_instruction : mg "write_instruction" = some (.ref f_write_instruction)
  f_source_octets : Addr
  d_source_octets : FuncData
  F_source_octets : Fun K "source_octets" "source_octets" s_source_octets f_source_octets d_source_octets
  b_source_octets : Binds K d_source_octets ["kind", "source"] []
  g_source_octets : mg "source_octets" = some (.ref f_source_octets)
  f_is_answer : Addr
  d_is_answer : FuncData
  F_is_answer : Fun K "is_answer" "is_answer" s_is_answer f_is_answer d_is_answer
  b_is_answer : Binds K d_is_answer ["thing"] []
  g_is_answer : mg "is_answer" = some (.ref f_is_answer)
  f_write_answer : Addr
  d_write_answer : FuncData
  F_write_answer : Fun K "write_answer" "write_answer" s_write_answer f_write_answer d_write_answer
  b_write_answer : Binds K d_write_answer ["answer"] []
  g_write_answer : mg "write_answer" = some (.ref f_write_answer)
  f_is_line : Addr
  d_is_line : FuncData
  F_is_line : Fun K "is_line" "is_line" s_is_line f_is_line d_is_line
  b_is_line : Binds K d_is_line ["thing", "required"] []
  g_is_line : mg "is_line" = some (.ref f_is_line)
  f_is_block : Addr
  d_is_block : FuncData
  F_is_block : Fun K "is_block" "is_block" s_is_block f_is_block d_is_block
  b_is_block : Binds K d_is_block ["thing"] []
  g_is_block : mg "is_block" = some (.ref f_is_block)
  f_write_block : Addr
  d_write_block : FuncData
  F_write_block : Fun K "write_block" "write_block" s_write_block f_write_block d_write_block
  b_write_block : Binds K d_write_block ["block"] []
  g_write_block : mg "write_block" = some (.ref f_write_block)
  f_line_octets : Addr
  d_line_octets : FuncData
  F_line_octets : Fun K "line_octets" "line_octets" s_line_octets f_line_octets d_line_octets
  b_line_octets : Binds K d_line_octets ["line", "base"] []
  g_line_octets : mg "line_octets" = some (.ref f_line_octets)
  f_whole_octets : Addr
  d_whole_octets : FuncData
  F_whole_octets : Fun K "whole_octets" "whole_octets" s_whole_octets f_whole_octets d_whole_octets
  b_whole_octets : Binds K d_whole_octets ["kind", "number", "base"] []
  g_whole_octets : mg "whole_octets" = some (.ref f_whole_octets)
  f_named_octets : Addr
  d_named_octets : FuncData
  F_named_octets : Fun K "named_octets" "named_octets" s_named_octets f_named_octets d_named_octets
  b_named_octets : Binds K d_named_octets ["kind", "number", "base"] []
  g_named_octets : mg "named_octets" = some (.ref f_named_octets)
  f_run_table : Addr
  d_run_table : FuncData
  F_run_table : Fun K "run_table" "run_table" s_run_table f_run_table d_run_table
  b_run_table : Binds K d_run_table ["setting", "instructions"] []
  g_run_table : mg "run_table" = some (.ref f_run_table)
  f_said_field : Addr
  d_said_field : FuncData
  F_said_field : Fun K "said_field" "said_field" s_said_field f_said_field d_said_field
  b_said_field : Binds K d_said_field ["fixed", "entries", "line"] []
  g_said_field : mg "said_field" = some (.ref f_said_field)
  f_referred : Addr
  d_referred : FuncData
  F_referred : Fun K "referred" "referred" s_referred f_referred d_referred
  b_referred : Binds K d_referred ["fixed", "entries", "kind", "number"] []
  g_referred : mg "referred" = some (.ref f_referred)
  f_entry_size : Addr
  d_entry_size : FuncData
  F_entry_size : Fun K "entry_size" "entry_size" s_entry_size f_entry_size d_entry_size
  b_entry_size : Binds K d_entry_size ["field"] []
  g_entry_size : mg "entry_size" = some (.ref f_entry_size)
  f_Table_init : Addr
  d_Table_init : FuncData
  F_Table_init : Fun K "__init__" "Table.__init__" s_Table_init f_Table_init d_Table_init
  b_Table_init : Binds K d_Table_init ["self", "setting"] []
  f_Table_copied : Addr
  d_Table_copied : FuncData
  F_Table_copied : Fun K "copied" "Table.copied" s_Table_copied f_Table_copied d_Table_copied
  b_Table_copied : Binds K d_Table_copied ["self"] []
  f_Table_carry_out : Addr
  d_Table_carry_out : FuncData
  F_Table_carry_out : Fun K "carry_out" "Table.carry_out" s_Table_carry_out f_Table_carry_out d_Table_carry_out
  b_Table_carry_out : Binds K d_Table_carry_out ["self", "instruction"] []
  f_Table_set_bound : Addr
  d_Table_set_bound : FuncData
  F_Table_set_bound : Fun K "set_bound" "Table.set_bound" s_Table_set_bound f_Table_set_bound d_Table_set_bound
  b_Table_set_bound : Binds K d_Table_set_bound ["self", "bound"] []
  f_Table_inserted : Addr
  d_Table_inserted : FuncData
  F_Table_inserted : Fun K "inserted" "Table.inserted" s_Table_inserted f_Table_inserted d_Table_inserted
  b_Table_inserted : Binds K d_Table_inserted ["self", "instruction"] []
  f_Table_has_room : Addr
  d_Table_has_room : FuncData
  F_Table_has_room : Fun K "has_room" "Table.has_room" s_Table_has_room f_Table_has_room d_Table_has_room
  b_Table_has_room : Binds K d_Table_has_room ["self", "field"] []
  f_Table_leaving : Addr
  d_Table_leaving : FuncData
  F_Table_leaving : Fun K "leaving" "Table.leaving" s_Table_leaving f_Table_leaving d_Table_leaving
  b_Table_leaving : Binds K d_Table_leaving ["self", "bound", "more"] []
  f_Table_drop : Addr
  d_Table_drop : FuncData
  F_Table_drop : Fun K "drop" "Table.drop" s_Table_drop f_Table_drop d_Table_drop
  b_Table_drop : Binds K d_Table_drop ["self", "numbers"] []
  f_is_event : Addr
  d_is_event : FuncData
  F_is_event : Fun K "is_event" "is_event" s_is_event f_is_event d_is_event
  b_is_event : Binds K d_is_event ["thing"] []
  g_is_event : mg "is_event" = some (.ref f_is_event)
  f_is_log : Addr
  d_is_log : FuncData
  F_is_log : Fun K "is_log" "is_log" s_is_log f_is_log d_is_log
  b_is_log : Binds K d_is_log ["thing"] []
  g_is_log : mg "is_log" = some (.ref f_is_log)
  f_law_spread : Addr
  d_law_spread : FuncData
  F_law_spread : Fun K "_law_spread" "_law_spread" s_law_spread f_law_spread d_law_spread
  b_law_spread : Binds K d_law_spread ["cell", "at"] []
  g_law_spread : mg "_law_spread" = some (.ref f_law_spread)
  f_law_open : Addr
  d_law_open : FuncData
  F_law_open : Fun K "_law_open" "_law_open" s_law_open f_law_open d_law_open
  b_law_open : Binds K d_law_open ["script"] []
  g_law_open : mg "_law_open" = some (.ref f_law_open)
  f_law_take : Addr
  d_law_take : FuncData
  F_law_take : Fun K "_law_take" "_law_take" s_law_take f_law_take d_law_take
  b_law_take : Binds K d_law_take ["pen", "many"] []
  g_law_take : mg "_law_take" = some (.ref f_law_take)
  f_law_u_pick : Addr
  d_law_u_pick : FuncData
  F_law_u_pick : Fun K "_law_u_pick" "_law_u_pick" s_law_u_pick f_law_u_pick d_law_u_pick
  b_law_u_pick : Binds K d_law_u_pick ["pen", "some"] []
  g_law_u_pick : mg "_law_u_pick" = some (.ref f_law_u_pick)
  f_law_u_behind : Addr
  d_law_u_behind : FuncData
  F_law_u_behind : Fun K "_law_u_behind" "_law_u_behind" s_law_u_behind f_law_u_behind d_law_u_behind
  b_law_u_behind : Binds K d_law_u_behind ["fits", "carried"] []
  g_law_u_behind : mg "_law_u_behind" = some (.ref f_law_u_behind)
  f_law_u_octets : Addr
  d_law_u_octets : FuncData
  F_law_u_octets : Fun K "_law_u_octets" "_law_u_octets" s_law_u_octets f_law_u_octets d_law_u_octets
  b_law_u_octets : Binds K d_law_u_octets ["event"] []
  g_law_u_octets : mg "_law_u_octets" = some (.ref f_law_u_octets)
  f_law_u_log : Addr
  d_law_u_log : FuncData
  F_law_u_log : Fun K "_law_u_log" "_law_u_log" s_law_u_log f_law_u_log d_law_u_log
  b_law_u_log : Binds K d_law_u_log ["events"] []
  g_law_u_log : mg "_law_u_log" = some (.ref f_law_u_log)
  f_law_u_setting : Addr
  d_law_u_setting : FuncData
  F_law_u_setting : Fun K "_law_u_setting" "_law_u_setting" s_law_u_setting f_law_u_setting d_law_u_setting
  b_law_u_setting : Binds K d_law_u_setting ["pen"] []
  g_law_u_setting : mg "_law_u_setting" = some (.ref f_law_u_setting)
  f_law_u_instruction : Addr
  d_law_u_instruction : FuncData
  F_law_u_instruction : Fun K "_law_u_instruction" "_law_u_instruction" s_law_u_instruction f_law_u_instruction d_law_u_instruction
  b_law_u_instruction : Binds K d_law_u_instruction ["pen", "fits", "count", "kept"] []
  g_law_u_instruction : mg "_law_u_instruction" = some (.ref f_law_u_instruction)
  f_law_u_block : Addr
  d_law_u_block : FuncData
  F_law_u_block : Fun K "_law_u_block" "_law_u_block" s_law_u_block f_law_u_block d_law_u_block
  b_law_u_block : Binds K d_law_u_block ["pen", "fits", "entries", "count"] []
  g_law_u_block : mg "_law_u_block" = some (.ref f_law_u_block)
  f_law_u_events : Addr
  d_law_u_events : FuncData
  F_law_u_events : Fun K "_law_u_events" "_law_u_events" s_law_u_events f_law_u_events d_law_u_events
  b_law_u_events : Binds K d_law_u_events ["pen", "fits", "many"] []
  g_law_u_events : mg "_law_u_events" = some (.ref f_law_u_events)
  f_law_u_are_octets : Addr
  d_law_u_are_octets : FuncData
  F_law_u_are_octets : Fun K "_law_u_are_octets" "_law_u_are_octets" s_law_u_are_octets f_law_u_are_octets d_law_u_are_octets
  b_law_u_are_octets : Binds K d_law_u_are_octets ["given"] []
  g_law_u_are_octets : mg "_law_u_are_octets" = some (.ref f_law_u_are_octets)
  f_law_u_is_event : Addr
  d_law_u_is_event : FuncData
  F_law_u_is_event : Fun K "_law_u_is_event" "_law_u_is_event" s_law_u_is_event f_law_u_is_event d_law_u_is_event
  b_law_u_is_event : Binds K d_law_u_is_event ["given"] []
  g_law_u_is_event : mg "_law_u_is_event" = some (.ref f_law_u_is_event)
  f_law_u_bent : Addr
  d_law_u_bent : FuncData
  F_law_u_bent : Fun K "_law_u_bent" "_law_u_bent" s_law_u_bent f_law_u_bent d_law_u_bent
  b_law_u_bent : Binds K d_law_u_bent ["pen", "book"] []
  g_law_u_bent : mg "_law_u_bent" = some (.ref f_law_u_bent)
  f_law : Addr
  d_law : FuncData
  F_law : Fun K "law" "law" s_law f_law d_law
  b_law : Binds K d_law ["script"] []
  g_law : mg "law" = some (.ref f_law)
  C_FieldError : Addr
  m_FieldError : Value
  B_FieldError : BaseC K mg "FieldError" C_FieldError m_FieldError
  R_FieldError : RootC K C_FieldError
  C_NoSetting : Addr
  P_NoSetting : PlainC K mg "NoSetting" C_NoSetting [.type "ValueError", .type "Exception", .type "BaseException", .type "object"]
  S_NoSetting : HeirC K C_NoSetting C_FieldError
  C_NoValue : Addr
  P_NoValue : PlainC K mg "NoValue" C_NoValue [.type "ValueError", .type "Exception", .type "BaseException", .type "object"]
  S_NoValue : HeirC K C_NoValue C_FieldError
  C_BadTable : Addr
  E_BadTable : ErrC K mg "BadTable" "number" C_BadTable f_BadTable_init
  S_BadTable : HeirC K C_BadTable C_FieldError
  C_Table : Addr
  cl_Table : Cls K C_Table
  g_Table : mg "Table" = some (.ref C_Table)
  M_Table : Mk K C_Table f_Table_init
  nA_Table_setting : NoAttr K C_Table "setting"
  nA_Table_bound : NoAttr K C_Table "bound"
  nA_Table_made : NoAttr K C_Table "made"
  nA_Table_kept : NoAttr K C_Table "kept"
  m_Table_copied : Meth K C_Table "copied" f_Table_copied
  m_Table_carry_out : Meth K C_Table "carry_out" f_Table_carry_out
  m_Table_set_bound : Meth K C_Table "set_bound" f_Table_set_bound
  m_Table_inserted : Meth K C_Table "inserted" f_Table_inserted
  m_Table_has_room : Meth K C_Table "has_room" f_Table_has_room
  m_Table_leaving : Meth K C_Table "leaving" f_Table_leaving
  m_Table_drop : Meth K C_Table "drop" f_Table_drop
  SE_BadTable : PySem.W.exmOne K (.ref C_BadTable) (.ref C_BadTable) = some true
  kw_is_log : KBinds K d_is_log ["thing"] ["thing"] gW gW
  t_NUMBER_MOST : Tok
  g_NUMBER_MOST : mg "NUMBER_MOST" = some (.int 9999 t_NUMBER_MOST)
  t_STREAM_MOST : Tok
  g_STREAM_MOST : mg "STREAM_MOST" = some (.int 20 t_STREAM_MOST)
  t_NAME_MOST : Tok
  g_NAME_MOST : mg "NAME_MOST" = some (.int 20 t_NAME_MOST)
  t_VALUE_MOST : Tok
  g_VALUE_MOST : mg "VALUE_MOST" = some (.int 40 t_VALUE_MOST)
  t_FIXED_MOST : Tok
  g_FIXED_MOST : mg "FIXED_MOST" = some (.int 12 t_FIXED_MOST)
  t_ROOM_MOST : Tok
  g_ROOM_MOST : mg "ROOM_MOST" = some (.int 120 t_ROOM_MOST)
  t_WAITING_MOST : Tok
  g_WAITING_MOST : mg "WAITING_MOST" = some (.int 4 t_WAITING_MOST)
  t_VALUE_PREFIX : Tok
  g_VALUE_PREFIX : mg "VALUE_PREFIX" = some (.int 7 t_VALUE_PREFIX)
  a_CHARACTERS : Addr
  g_CHARACTERS : mg "CHARACTERS" = some (.ref a_CHARACTERS)
  CHARACTERS_d : IDict K a_CHARACTERS chars
  t_LINES_MOST : Tok
  g_LINES_MOST : mg "LINES_MOST" = some (.int 16 t_LINES_MOST)
  t_SIZE_MORE : Tok
  g_SIZE_MORE : mg "SIZE_MORE" = some (.int 4 t_SIZE_MORE)
  t_EVENTS_MOST : Tok
  g_EVENTS_MOST : mg "EVENTS_MOST" = some (.int 40 t_EVENTS_MOST)
  z_all : mg "all" = none
  z_bool : mg "bool" = none
  z_enumerate : mg "enumerate" = none
  z_int : mg "int" = none
  z_isinstance : mg "isinstance" = none
  z_len : mg "len" = none
  z_list : mg "list" = none
  z_max : mg "max" = none
  z_ord : mg "ord" = none
  z_range : mg "range" = none
  z_repr : mg "repr" = none
  z_sorted : mg "sorted" = none
  z_str : mg "str" = none
  z_sum : mg "sum" = none
  z_tuple : mg "tuple" = none
theorem sc_wall : FnScope ["k"] ["k"] (defScope s_wall) := ⟨rfl, rfl, rfl, by decide +kernel, rfl, by decide +kernel, by decide +kernel⟩
theorem sc_BadTable_init : FnScope ["self", "number"] ["self", "number"] (defScope s_BadTable_init) := ⟨rfl, rfl, rfl, by decide +kernel, rfl, by decide +kernel, by decide +kernel⟩
theorem sc_is_between : FnScope ["thing", "least", "most"] ["thing", "least", "most"] (defScope s_is_between) := ⟨rfl, rfl, rfl, by decide +kernel, rfl, by decide +kernel, by decide +kernel⟩
theorem sc_is_number : FnScope ["thing"] ["thing"] (defScope s_is_number) := ⟨rfl, rfl, rfl, by decide +kernel, rfl, by decide +kernel, by decide +kernel⟩
theorem sc_is_stream : FnScope ["thing"] ["thing"] (defScope s_is_stream) := ⟨rfl, rfl, rfl, by decide +kernel, rfl, by decide +kernel, by decide +kernel⟩
theorem sc_is_text : FnScope ["thing", "least", "most", "character"] ["thing", "least", "most"] (defScope s_is_text) := ⟨rfl, rfl, rfl, by decide +kernel, rfl, by decide +kernel, by decide +kernel⟩
theorem sc_is_name : FnScope ["thing"] ["thing"] (defScope s_is_name) := ⟨rfl, rfl, rfl, by decide +kernel, rfl, by decide +kernel, by decide +kernel⟩
theorem sc_is_value : FnScope ["thing"] ["thing"] (defScope s_is_value) := ⟨rfl, rfl, rfl, by decide +kernel, rfl, by decide +kernel, by decide +kernel⟩
theorem sc_is_field : FnScope ["thing"] ["thing"] (defScope s_is_field) := ⟨rfl, rfl, rfl, by decide +kernel, rfl, by decide +kernel, by decide +kernel⟩
theorem sc_is_tuple_of_fields : FnScope ["thing", "most", "field"] ["thing", "most"] (defScope s_is_tuple_of_fields) := ⟨rfl, rfl, rfl, by decide +kernel, rfl, by decide +kernel, by decide +kernel⟩
theorem sc_is_setting : FnScope ["thing", "fixed", "room", "waiting"] ["thing"] (defScope s_is_setting) := ⟨rfl, rfl, rfl, by decide +kernel, rfl, by decide +kernel, by decide +kernel⟩
theorem sc_are_octets : FnScope ["thing", "octet"] ["thing"] (defScope s_are_octets) := ⟨rfl, rfl, rfl, by decide +kernel, rfl, by decide +kernel, by decide +kernel⟩
theorem sc_check_setting : FnScope ["setting"] ["setting"] (defScope s_check_setting) := ⟨rfl, rfl, rfl, by decide +kernel, rfl, by decide +kernel, by decide +kernel⟩
theorem sc_check_prefix : FnScope ["prefix", "mark"] ["prefix", "mark"] (defScope s_check_prefix) := ⟨rfl, rfl, rfl, by decide +kernel, rfl, by decide +kernel, by decide +kernel⟩
theorem sc_prefix_bits : FnScope ["prefix"] ["prefix"] (defScope s_prefix_bits) := ⟨rfl, rfl, rfl, by decide +kernel, rfl, by decide +kernel, by decide +kernel⟩
theorem sc_number_octets : FnScope ["number", "prefix", "mark", "bits", "octets", "rest"] ["number", "prefix", "mark"] (defScope s_number_octets) := ⟨rfl, rfl, rfl, by decide +kernel, rfl, by decide +kernel, by decide +kernel⟩
theorem sc_string_octets : FnScope ["text", "prefix", "mark", "character"] ["text", "prefix", "mark"] (defScope s_string_octets) := ⟨rfl, rfl, rfl, by decide +kernel, rfl, by decide +kernel, by decide +kernel⟩
theorem sc_value_octets : FnScope ["value"] ["value"] (defScope s_value_octets) := ⟨rfl, rfl, rfl, by decide +kernel, rfl, by decide +kernel, by decide +kernel⟩
theorem sc_is_instruction : FnScope ["thing", "kind", "source", "value"] ["thing"] (defScope s_is_instruction) := ⟨rfl, rfl, rfl, by decide +kernel, rfl, by decide +kernel, by decide +kernel⟩
theorem sc_write_instruction : FnScope ["instruction", "kind"] ["instruction"] (defScope s_write_instruction) := ⟨rfl, rfl, rfl, by decide +kernel, rfl, by decide +kernel, by decide +kernel⟩
theorem sc_source_octets : FnScope ["kind", "source"] ["kind", "source"] (defScope s_source_octets) := ⟨rfl, rfl, rfl, by decide +kernel, rfl, by decide +kernel, by decide +kernel⟩
theorem sc_is_answer : FnScope ["thing", "kind", "number"] ["thing"] (defScope s_is_answer) := ⟨rfl, rfl, rfl, by decide +kernel, rfl, by decide +kernel, by decide +kernel⟩
theorem sc_write_answer : FnScope ["answer", "kind", "number"] ["answer"] (defScope s_write_answer) := ⟨rfl, rfl, rfl, by decide +kernel, rfl, by decide +kernel, by decide +kernel⟩
theorem sc_is_line : FnScope ["thing", "required"] ["thing", "required"] (defScope s_is_line) := ⟨rfl, rfl, rfl, by decide +kernel, rfl, by decide +kernel, by decide +kernel⟩
theorem sc_is_block : FnScope ["thing", "required", "base", "lines", "line"] ["thing"] (defScope s_is_block) := ⟨rfl, rfl, rfl, by decide +kernel, rfl, by decide +kernel, by decide +kernel⟩
theorem sc_write_block : FnScope ["block", "required", "base", "lines", "octets", "line"] ["block"] (defScope s_write_block) := ⟨rfl, rfl, rfl, by decide +kernel, rfl, by decide +kernel, by decide +kernel⟩
theorem sc_line_octets : FnScope ["line", "base", "kind"] ["line", "base"] (defScope s_line_octets) := ⟨rfl, rfl, rfl, by decide +kernel, rfl, by decide +kernel, by decide +kernel⟩
theorem sc_whole_octets : FnScope ["kind", "number", "base"] ["kind", "number", "base"] (defScope s_whole_octets) := ⟨rfl, rfl, rfl, by decide +kernel, rfl, by decide +kernel, by decide +kernel⟩
theorem sc_named_octets : FnScope ["kind", "number", "base"] ["kind", "number", "base"] (defScope s_named_octets) := ⟨rfl, rfl, rfl, by decide +kernel, rfl, by decide +kernel, by decide +kernel⟩
theorem sc_run_table : FnScope ["setting", "instructions", "thing", "table", "number", "instruction"] ["setting", "instructions"] (defScope s_run_table) := ⟨rfl, rfl, rfl, by decide +kernel, rfl, by decide +kernel, by decide +kernel⟩
theorem sc_said_field : FnScope ["fixed", "entries", "line", "field"] ["fixed", "entries", "line"] (defScope s_said_field) := ⟨rfl, rfl, rfl, by decide +kernel, rfl, by decide +kernel, by decide +kernel⟩
theorem sc_referred : FnScope ["fixed", "entries", "kind", "number"] ["fixed", "entries", "kind", "number"] (defScope s_referred) := ⟨rfl, rfl, rfl, by decide +kernel, rfl, by decide +kernel, by decide +kernel⟩
theorem sc_entry_size : FnScope ["field"] ["field"] (defScope s_entry_size) := ⟨rfl, rfl, rfl, by decide +kernel, rfl, by decide +kernel, by decide +kernel⟩
theorem sc_Table_init : FnScope ["self", "setting"] ["self", "setting"] (defScope s_Table_init) := ⟨rfl, rfl, rfl, by decide +kernel, rfl, by decide +kernel, by decide +kernel⟩
theorem sc_Table_copied : FnScope ["self"] ["self"] (defScope s_Table_copied) := ⟨rfl, rfl, rfl, by decide +kernel, rfl, by decide +kernel, by decide +kernel⟩
theorem sc_Table_carry_out : FnScope ["self", "instruction", "field"] ["self", "instruction"] (defScope s_Table_carry_out) := ⟨rfl, rfl, rfl, by decide +kernel, rfl, by decide +kernel, by decide +kernel⟩
theorem sc_Table_set_bound : FnScope ["self", "bound"] ["self", "bound"] (defScope s_Table_set_bound) := ⟨rfl, rfl, rfl, by decide +kernel, rfl, by decide +kernel, by decide +kernel⟩
theorem sc_Table_inserted : FnScope ["self", "instruction", "kind", "number"] ["self", "instruction"] (defScope s_Table_inserted) := ⟨rfl, rfl, rfl, by decide +kernel, rfl, by decide +kernel, by decide +kernel⟩
theorem sc_Table_has_room : FnScope ["self", "field"] ["self", "field"] (defScope s_Table_has_room) := ⟨rfl, rfl, rfl, by decide +kernel, rfl, by decide +kernel, by decide +kernel⟩
theorem sc_Table_leaving : FnScope ["self", "bound", "more", "total", "field", "numbers", "number"] ["self", "bound", "more"] (defScope s_Table_leaving) := ⟨rfl, rfl, rfl, by decide +kernel, rfl, by decide +kernel, by decide +kernel⟩
theorem sc_Table_drop : FnScope ["self", "numbers", "number"] ["self", "numbers"] (defScope s_Table_drop) := ⟨rfl, rfl, rfl, by decide +kernel, rfl, by decide +kernel, by decide +kernel⟩
theorem sc_is_event : FnScope ["thing"] ["thing"] (defScope s_is_event) := ⟨rfl, rfl, rfl, by decide +kernel, rfl, by decide +kernel, by decide +kernel⟩
theorem sc_is_log : FnScope ["thing", "event"] ["thing"] (defScope s_is_log) := ⟨rfl, rfl, rfl, by decide +kernel, rfl, by decide +kernel, by decide +kernel⟩
theorem sc_law_spread : FnScope ["cell", "at", "primes", "one", "two", "three"] ["cell", "at"] (defScope s_law_spread) := ⟨rfl, rfl, rfl, by decide +kernel, rfl, by decide +kernel, by decide +kernel⟩
theorem sc_law_open : FnScope ["script", "cells", "k", "cell"] ["script"] (defScope s_law_open) := ⟨rfl, rfl, rfl, by decide +kernel, rfl, by decide +kernel, by decide +kernel⟩
theorem sc_law_take : FnScope ["pen", "many", "at", "cell", "found"] ["pen", "many"] (defScope s_law_take) := ⟨rfl, rfl, rfl, by decide +kernel, rfl, by decide +kernel, by decide +kernel⟩
theorem sc_law_u_pick : FnScope ["pen", "some"] ["pen", "some"] (defScope s_law_u_pick) := ⟨rfl, rfl, rfl, by decide +kernel, rfl, by decide +kernel, by decide +kernel⟩
theorem sc_law_u_behind : FnScope ["fits", "carried", "told"] ["fits", "carried"] (defScope s_law_u_behind) := ⟨rfl, rfl, rfl, by decide +kernel, rfl, by decide +kernel, by decide +kernel⟩
theorem sc_law_u_octets : FnScope ["event"] ["event"] (defScope s_law_u_octets) := ⟨rfl, rfl, rfl, by decide +kernel, rfl, by decide +kernel, by decide +kernel⟩
theorem sc_law_u_log : FnScope ["events", "event"] ["events"] (defScope s_law_u_log) := ⟨rfl, rfl, rfl, by decide +kernel, rfl, by decide +kernel, by decide +kernel⟩
theorem sc_law_u_setting : FnScope ["pen", "some"] ["pen"] (defScope s_law_u_setting) := ⟨rfl, rfl, rfl, by decide +kernel, rfl, by decide +kernel, by decide +kernel⟩
theorem sc_law_u_instruction : FnScope ["pen", "fits", "count", "kept", "name", "value", "way", "number"] ["pen", "fits", "count", "kept"] (defScope s_law_u_instruction) := ⟨rfl, rfl, rfl, by decide +kernel, rfl, by decide +kernel, by decide +kernel⟩
theorem sc_law_u_block : FnScope ["pen", "fits", "entries", "count", "lines", "turn", "value", "way", "required", "line"] ["pen", "fits", "entries", "count"] (defScope s_law_u_block) := ⟨rfl, rfl, rfl, by decide +kernel, rfl, by decide +kernel, by decide +kernel⟩
theorem sc_law_u_events : FnScope ["pen", "fits", "many", "carried", "found", "turn", "count", "kept", "way", "stream", "one", "some"] ["pen", "fits", "many"] (defScope s_law_u_events) := ⟨rfl, rfl, rfl, by decide +kernel, rfl, by decide +kernel, by decide +kernel⟩
theorem sc_law_u_are_octets : FnScope ["given", "one"] ["given"] (defScope s_law_u_are_octets) := ⟨rfl, rfl, rfl, by decide +kernel, rfl, by decide +kernel, by decide +kernel⟩
theorem sc_law_u_is_event : FnScope ["given"] ["given"] (defScope s_law_u_is_event) := ⟨rfl, rfl, rfl, by decide +kernel, rfl, by decide +kernel, by decide +kernel⟩
theorem sc_law_u_bent : FnScope ["pen", "book", "at", "octets", "some", "found"] ["pen", "book"] (defScope s_law_u_bent) := ⟨rfl, rfl, rfl, by decide +kernel, rfl, by decide +kernel, by decide +kernel⟩
theorem sc_law : FnScope ["script", "pen", "turn", "fits", "book", "wide", "k", "given", "again", "due", "one", "seen", "found"] ["script"] (defScope s_law) := ⟨rfl, rfl, rfl, by decide +kernel, rfl, by decide +kernel, by decide +kernel⟩
section
variable {P : Program} {w : World} {K : PySem.W.Frag} {mg : Str → Option Value} {base : Heap}
theorem ok_is_between (T : Txt K mg) : FnOk P w K mg base CX0 1 T.f_is_between T.d_is_between ["thing", "least", "most"] (sp_is_between K) := by
  refine T.F_is_between.ok sc_is_between (fun vs H Q E h => ?_) (fun cdv A outer s H vs Q E hr h => ?_)
  · obtain ⟨v, t, a, b, rfl, _⟩ := h
    rfl
  · obtain ⟨v, t, a, b, rfl, k, q⟩ := h
    refine ⟨_, (pss_one (ps_ret (pe_and (pe_callB call_isi rfl T.z_isinstance boot_isinstance (pa_cons (pv 0) (pa_cons (pe_bltn (v := .ty "int") rfl T.z_int boot_int rfl) pa_nil))) (pe_and (pe_not (pe_callB call_isi rfl T.z_isinstance boot_isinstance (pa_cons (pv 0) (pa_cons (pe_bltn (v := .ty "bool") rfl T.z_bool boot_bool rfl) pa_nil)))) (pe_one (pe_chain op_le op_le (pv 1) (pv 0) (pv 2))))))), ?_⟩
    refine ⟨_, rfl, _, _, _, _, _, rfl, .ty _, k.ty, k.kit, _, rfl, ifb (fun e => ?_) (fun e => ?_)⟩
    · refine ⟨_, rfl, _, _, _, _, _, rfl, .ty _, k.ty, k.kit, _, rfl, _, rfl, ifb (fun e2 => ?_) (fun e2 => ?_)⟩
      · have ei : t = "int" := by
          cases k <;> first | rfl | (exfalso; revert e e2; decide)
        cases k <;> first | (exact absurd ei (by decide)) | skip
        rename_i i
        refine ⟨_, rfl, _, rfl, _, _, rfl, rfl, _, rfl, ifb (fun e3 => ?_) (fun e3 => ?_)⟩
        · exact ⟨_, rfl, _, _, rfl, rfl, Q_bl q (by show (decide _ && decide _) = _; rw [e3]; rfl)⟩
        · exact Q_bl q (by show (decide _ && decide _) = _; rw [e3]; rfl)
      · refine Q_bl q ?_
        cases k <;> first | rfl | (exfalso; revert e e2; decide)
    · refine Q_bl q ?_
      cases k <;> first | rfl | (exfalso; revert e; decide)

theorem ok_is_number (T : Txt K mg) : FnOk P w K mg base CX0 2 T.f_is_number T.d_is_number ["thing"] (sp_is_number K) := by
  refine T.F_is_number.ok sc_is_number (fun vs H Q E h => ?_) (fun cdv A outer s H vs Q E hr h => ?_)
  · obtain ⟨v, t, rfl, _⟩ := h
    rfl
  · obtain ⟨v, t, rfl, k, q⟩ := h
    refine ⟨_, (pss_one (ps_ret (pe_call (ok_is_between T) (hr.mono (by decide)) rfl T.g_is_between T.F_is_between.kp T.b_is_between .nil pass0 (pa_cons (pv 0) (pa_cons pe_int (pa_cons (pe_glob (v := .int 9999) rfl T.g_NUMBER_MOST ⟨_, rfl⟩) pa_nil)))))), ?_⟩
    exact ⟨_, rfl, v, t, 0, 9999, rfl, k, q⟩
theorem ok_is_text (T : Txt K mg) : FnOk P w K mg base CX0 1 T.f_is_text T.d_is_text ["thing", "least", "most"] (sp_is_text K) := by
  refine T.F_is_text.ok sc_is_text (fun vs H Q E h => ?_) (fun cdv A outer s H vs Q E hr h => ?_)
  · obtain ⟨v, t, a, b, rfl, _⟩ := h
    rfl
  · obtain ⟨v, t, a, b, rfl, k, hz, q⟩ := h
    refine ⟨_, (pss_cons (ps_if (PW.pt (pw_or (pt_not (pt_val (pe_callB call_isi rfl T.z_isinstance boot_isinstance (pa_cons (pv 0) (pa_cons (pe_bltn (v := .ty "str") rfl T.z_str boot_str rfl) pa_nil))))) (pw_or1 (pt_not (pt_chain op_le op_le (pv 1) (pe_callB call_len rfl T.z_len boot_len (pa_cons (pv 0) pa_nil)) (pv 2)))))) (pss_one (ps_ret pe_bl)) pss_nil)
      (pss_one (ps_ret (pe_callB (cr_all rfl) rfl T.z_all boot_all (pa_cons (pe_lc (own := [("character", 3)]) (g := (gName 3)) (tt := tYes)  rfl sc_is_text.nd (pi_str (pv 0)) (blkOk_by (own := [("character", 3)]) (N := ["thing", "least", "most", "character"]) (sc := defScope s_is_text) (by decide +kernel)) (fun _ _ _ _ _ => (pg_name (i := 3) sc_is_text.nd rfl (Or.inl rfl))) (fun _ _ _ _ _ => pts_nil) (fun _ _ _ _ _ => (pe_cmpR (op_in_kdI T.CHARACTERS_d) (pe_callB call_ord rfl T.z_ord boot_ord (pa_cons (pv 3) pa_nil)) (pe_glob (v := .ref T.a_CHARACTERS) rfl T.g_CHARACTERS rfl) rfl))) pa_nil))))), ?_⟩
    refine ⟨_, rfl, _, _, _, _, _, rfl, .ty _, k.ty, k.kit, _, rfl, ?_⟩
    refine ifb (fun e => ?_) (fun e => ?_)
    · refine iteT ?_
      refine Q_bl (q H (Same.refl _)) ?_
      cases k <;> first | rfl | (exfalso; revert e; decide)
    · cases k <;> first | (exfalso; revert e; decide) | skip
      rename_i x
      have hx := hz x rfl
      refine ⟨_, rfl, _, rfl, _, _, rfl, ⟨len100 hx, rfl⟩, _, _, rfl, rfl, _, rfl, ifb (fun e2 => ?_) (fun e2 => ?_)⟩
      · refine ⟨_, rfl, _, _, rfl, rfl, _, rfl, ?_⟩
        refine ifb (fun e3 => ?_) (fun e3 => ?_)
        · refine Q_bl (q H (Same.refl _)) ?_
          show (_ && _ && _) = false
          have e3' : decide ((x.length : Int) ≤ b) = false := by simpa using e3
          rw [e3', Bool.and_false, Bool.false_and]
        · have e3' : decide ((x.length : Int) ≤ b) = true := by simpa using e3
          refine ⟨_, rfl, _, rfl, fun D hD => ?_⟩
          refine lc_map walk_str (fun i => V.bl (isChar (x.cps.toList.getD i 0))) (by show x.length ≤ 10000000; omega) hD (fun _ _ => True.intro) ?_ ?_
          · rintro i y H' H'' Q' Z hi s1 ⟨rfl, c, hc, rfl⟩ q'
            refine ⟨rfl, yesI ?_⟩
            refine ⟨_, rfl, _, rfl, rfl, _, rfl, rfl, ?_⟩
            have e4 : x.cps.toList.getD i 0 = c := getD_of 0 (cps_at hc)
            have e5 : (⟨#[c]⟩ : Str).cps.getD 0 0 = c := rfl
            have := q' H'' (Same.refl _)
            rw [e4] at this
            rw [e5, valI_chars]
            cases hcc : isChar c
            · rw [hcc] at this; exact this
            · rw [hcc] at this; exact this
          · intro H' s1 hD'
            refine ⟨_, x.cps.toList.map isChar, rfl, .inl (.inl ?_), ?_⟩
            · rw [hD']
              have : (List.range x.cps.size).map (fun i => V.bl (isChar (x.cps.toList.getD i 0))) = (x.cps.toList.map isChar).map V.bl := by
                rw [List.map_map]
                exact range_map x.cps.toList (fun c => V.bl (isChar c)) 0
              rw [this]
            · refine Q_bl (q H' s1) ?_
              show (_ && _ && _) = _
              rw [e2, e3']
              simp [List.all_map]
      · refine ⟨_, rfl, ?_⟩
        refine iteT ?_
        refine Q_bl (q H (Same.refl _)) ?_
        show (_ && _ && _) = false
        rw [e2, Bool.false_and, Bool.false_and]
theorem ok_is_value (T : Txt K mg) : FnOk P w K mg base CX0 2 T.f_is_value T.d_is_value ["thing"] (sp_is_value K) := by
  refine T.F_is_value.ok sc_is_value (fun vs H Q E h => ?_) (fun cdv A outer s H vs Q E hr h => ?_)
  · obtain ⟨v, t, rfl, _⟩ := h
    rfl
  · obtain ⟨v, t, rfl, k, hz, q⟩ := h
    refine ⟨_, (pss_one (ps_ret (pe_call (ok_is_text T) (hr.mono (by decide)) rfl T.g_is_text T.F_is_text.kp T.b_is_text .nil pass0 (pa_cons (pv 0) (pa_cons pe_int (pa_cons (pe_glob (v := .int 40) rfl T.g_VALUE_MOST ⟨_, rfl⟩) pa_nil)))))), ?_⟩
    exact ⟨_, rfl, v, t, 0, 40, rfl, k, hz, q⟩
theorem ok_prefix_bits (T : Txt K mg) : FnOk P w K mg base CX0 1 T.f_prefix_bits T.d_prefix_bits ["prefix"] sp_prefix_bits := by
  refine T.F_prefix_bits.ok sc_prefix_bits (fun vs H Q E h => ?_) (fun cdv A outer s H vs Q E hr h => ?_)
  · obtain ⟨b, rfl, _⟩ := h
    rfl
  · obtain ⟨b, rfl, hb, q⟩ := h
    refine ⟨_, (pss_one (ps_ret (pe_op op_sub (pe_op op_shl pe_int (pv 0)) pe_int))), ?_⟩
    refine ⟨_, rfl, _, _, rfl, rfl, ⟨by omega, by omega, by decide⟩, _, _, rfl, rfl, ?_⟩
    refine Q_int q ?_
    rw [Int.toNat_natCast, Int.one_mul]

theorem ok_check_prefix (T : Txt K mg) : FnOk P w K mg base CX0 2 T.f_check_prefix T.d_check_prefix ["prefix", "mark"] sp_check_prefix := by
  refine T.F_check_prefix.ok sc_check_prefix (fun vs H Q E h => ?_) (fun cdv A outer s H vs Q E hr h => ?_)
  · obtain ⟨b, m, rfl, _⟩ := h
    rfl
  · obtain ⟨b, m, rfl, ⟨hb1, hb8, hm, hz⟩, q⟩ := h
    refine ⟨_, (pss_cons (ps_if (pt_not (pt_val (pe_call (ok_is_between T) (hr.mono (by decide)) rfl T.g_is_between T.F_is_between.kp T.b_is_between .nil pass0 (pa_cons (pv 0) (pa_cons pe_int (pa_cons pe_int pa_nil)))))) (pss_one ps_never) pss_nil)
      (pss_one (ps_if (PW.pt (pw_or (pt_not (pt_val (pe_call (ok_is_between T) (hr.mono (by decide)) rfl T.g_is_between T.F_is_between.kp T.b_is_between .nil pass0 (pa_cons (pv 1) (pa_cons pe_int (pa_cons pe_int pa_nil)))))) (pw_or1 (pt_cmpR op_ne (pe_op op_and (pv 1) (pe_call (ok_prefix_bits T) (hr.mono (by decide)) rfl T.g_prefix_bits T.F_prefix_bits.kp T.b_prefix_bits .nil pass0 (pa_cons (pv 0) pa_nil))) pe_int (nomark _))))) (pss_one ps_never) pss_nil))), ?_⟩
    refine ⟨_, rfl, .int b, "int", 1, 8, rfl, .int _, _, rfl, ?_⟩
    have e1 : btw (.int (b : Nat)) 1 8 = true := btw_t (by omega) (by omega)
    refine ifF (by rw [e1]; rfl) ?_
    have e2 : btw (.int (m : Nat)) 0 255 = true := btw_t (by omega) (by omega)
    refine ⟨_, rfl, .int m, "int", 0, 255, rfl, .int _, _, rfl, ?_⟩
    refine ifF (by rw [e2]; rfl) ?_
    refine ⟨_, rfl, _, rfl, b, rfl, by omega, _, _, rfl, rfl, rfl, _, rfl, ?_⟩
    refine ifF ?_ q
    rw [bits_cast]
    show (!decide (V.int (Builtin.bitAnd (m : Int) ((2 ^ b - 1 : Nat) : Int)) = V.int 0)) = false
    rw [hz]
    rfl
theorem ok_number_octets (T : Txt K mg) : FnOk P w K mg base CX0 3 T.f_number_octets T.d_number_octets ["number", "prefix", "mark"] sp_number_octets := by
  refine T.F_number_octets.ok sc_number_octets (fun vs H Q E h => ?_) (fun cdv A outer s H vs Q E hr h => ?_)
  · obtain ⟨n, b, m, rfl, _⟩ := h
    rfl
  · obtain ⟨n, b, m, rfl, hn, M, q⟩ := h
    obtain ⟨hb1, hb8, hm, hz⟩ := id M
    refine ⟨_, (pss_cons (ps_if (pt_not (pt_val (pe_call (ok_is_number T) (hr.mono (by decide)) rfl T.g_is_number T.F_is_number.kp T.b_is_number .nil pass0 (pa_cons (pv 0) pa_nil)))) (pss_one ps_never) pss_nil)
      (pss_cons (ps_expr (pe_call (ok_check_prefix T) (hr.mono (by decide)) rfl T.g_check_prefix T.F_check_prefix.kp T.b_check_prefix .nil pass0 (pa_cons (pv 1) (pa_cons (pv 2) pa_nil))))
      (pss_cons (ps_set (i := 3) sc_number_octets.nd rfl (Or.inl rfl) (pe_call (ok_prefix_bits T) (hr.mono (by decide)) rfl T.g_prefix_bits T.F_prefix_bits.kp T.b_prefix_bits .nil pass0 (pa_cons (pv 1) pa_nil)))
      (pss_cons (ps_if (pt_cmpR op_lt (pv 0) (pv 3) (nomark _)) (pss_one (ps_ret (pe_lst (pa_cons (pe_op op_add (pv 2) (pv 0)) pa_nil)))) pss_nil)
      (pss_cons (ps_set (i := 4) sc_number_octets.nd rfl (Or.inl rfl) (pe_lst (pa_cons (pe_op op_add (pv 2) (pv 3)) pa_nil)))
      (pss_cons (ps_set (i := 5) sc_number_octets.nd rfl (Or.inl rfl) (pe_op op_sub (pv 0) (pv 3)))
      (pss_cons (ps_while PassesOwn.never (pt_cmpR op_ge (pv 5) pe_int (nomark _))
        (pss_cons (ps_expr (pe_bm PySem.F.plainAttrs_list PySem.F.slot_list_append PySem.F.type_list_append mt_append (pv 4) (pa_cons (pe_op op_add pe_int (pe_op op_and (pv 5) pe_int)) pa_nil)))
      (pss_one (ps_set (i := 5) sc_number_octets.nd rfl (Or.inl rfl) (pe_op op_shr (pv 5) pe_int)))))
      (pss_cons (ps_expr (pe_bm PySem.F.plainAttrs_list PySem.F.slot_list_append PySem.F.type_list_append mt_append (pv 4) (pa_cons (pv 5) pa_nil)))
      (pss_one (ps_ret (pv 4))))))))))), ?_⟩
    have e1 : btw (.int (n : Nat)) 0 9999 = true := btw_t (by omega) (by omega)
    refine ⟨_, rfl, .int n, "int", rfl, .int _, _, rfl, ?_⟩
    refine ifF (by rw [e1]; rfl) ?_
    refine ⟨_, rfl, _, rfl, b, m, rfl, M, ?_⟩
    refine ⟨_, rfl, b, rfl, by omega, ?_⟩
    refine ⟨_, rfl, _, rfl, _, _, rfl, rfl, _, rfl, ?_⟩
    have hp := pow_pos2 b
    have hp8 := pow_le8 hb8
    have eb := bits_cast b
    by_cases c : n < 2 ^ b - 1
    · refine ifT (decide_eq_true (by rw [eb]; omega)) ?_
      refine ⟨_, rfl, _, rfl, _, _, rfl, rfl, (by show 1 ≤ sizeLine; rw [sizeLine_eq]; omega), fun p hp' => ?_⟩
      refine q p _ hp' (Same.new hp') ?_
      rw [upd_same]
      unfold numOct
      rw [if_pos c]
      rfl
    · refine ifF (decide_eq_false (by rw [eb]; omega)) ?_
      refine ⟨_, rfl, _, rfl, _, _, rfl, rfl, (by show 1 ≤ sizeLine; rw [sizeLine_eq]; omega), fun p hp' => ?_⟩
      refine ⟨_, rfl, _, rfl, _, _, rfl, rfl, ?_⟩
      have eN : numOct n b m = [((m + (2 ^ b - 1) : Nat) : Int)] ++ restOct (n - (2 ^ b - 1)) := by
        unfold numOct
        rw [if_neg c]
        rfl
      have hl := numOct_len n b m
      refine ⟨fun k σ H' => ∃ acc : List Int, σ = [some (.int (n : Nat)), some (.int (b : Nat)), some (.int (m : Nat)), some (.int (2 ^ b - 1)), some (.ref p), some (.int (k : Nat))] ∧ Same H H' ∧ H' p = some (.lst (acc.map V.int)) ∧ acc ++ restOct k = numOct n b m,
        ⟨n - (2 ^ b - 1), [((m + (2 ^ b - 1) : Nat) : Int)], ?_, Same.new hp', ?_, eN.symm⟩, ?_⟩
      · have e : ((n : Int) - (2 ^ b - 1)) = ((n - (2 ^ b - 1) : Nat) : Int) := by rw [eb]; omega
        rw [← e]
        rfl
      · rw [upd_same, eb]
        rfl
      · rintro k σ H' ⟨acc, rfl, s1, hl', ha⟩
        refine ⟨_, rfl, _, _, rfl, rfl, _, rfl, ?_⟩
        by_cases ck : k < 128
        · refine ifF (decide_eq_false (by omega)) ?_
          refine ⟨_, rfl, .inl ⟨rfl, _, SqL.of hl'⟩, _, rfl, p, _, _, rfl, rfl, hl', ?_, ?_⟩
          · rw [List.length_map, sizeLine_eq]
            have : acc.length ≤ (numOct n b m).length := by rw [← ha]; simp
            omega
          · refine ⟨_, rfl, ?_⟩
            refine q p _ hp' (s1.put hp') ?_
            rw [upd_same, ← ha, restOct_lt ck, List.map_append]
            rfl
        · refine ifT (decide_eq_true (by omega)) ?_
          refine ⟨fun σ' H'' => ∃ acc : List Int, σ' = [some (.int (n : Nat)), some (.int (b : Nat)), some (.int (m : Nat)), some (.int (2 ^ b - 1)), some (.ref p), some (.int ((k / 128 : Nat) : Int))] ∧ Same H H'' ∧ H'' p = some (.lst (acc.map V.int)) ∧ acc ++ restOct (k / 128) = numOct n b m,
            fun σ' H'' h => ⟨k / 128, by omega, h⟩, ?_⟩
          refine ⟨_, rfl, .inl ⟨rfl, _, SqL.of hl'⟩, _, rfl, _, _, rfl, rfl, _, _, rfl, rfl, p, _, _, rfl, rfl, hl', ?_, ?_⟩
          · rw [List.length_map, sizeLine_eq]
            have : acc.length ≤ (numOct n b m).length := by rw [← ha]; simp
            omega
          · refine ⟨_, rfl, _, _, rfl, rfl, (by show (0 : Int) ≤ 7; decide), ?_⟩
            refine ⟨acc ++ [128 + (k : Int) % 128], ?_, s1.put hp', ?_, ?_⟩
            · have e : ((k : Int) / 2 ^ (7 : Int).toNat) = ((k / 128 : Nat) : Int) := by
                show (k : Int) / 128 = _
                omega
              rw [← e]
              rfl
            · rw [upd_same, and127 (by omega), List.map_append]
              rfl
            · rw [← ha, restOct_ge ck, List.append_assoc]
              rfl

theorem ok_string_octets (T : Txt K mg) : FnOk P w K mg base CX0 4 T.f_string_octets T.d_string_octets ["text", "prefix", "mark"] sp_string_octets := by
  refine T.F_string_octets.ok sc_string_octets (fun vs H Q E h => ?_) (fun cdv A outer s H vs Q E hr h => ?_)
  · obtain ⟨x, b, m, rfl, _⟩ := h
    rfl
  · obtain ⟨x, b, m, rfl, ht, M, q⟩ := h
    refine ⟨_, (pss_cons (ps_if (pt_not (pt_val (pe_call (ok_is_value T) (hr.mono (by decide)) rfl T.g_is_value T.F_is_value.kp T.b_is_value .nil pass0 (pa_cons (pv 0) pa_nil)))) (pss_one ps_never) pss_nil)
      (pss_one (ps_ret (pe_op op_cat (pe_call (ok_number_octets T) (hr.mono (by decide)) rfl T.g_number_octets T.F_number_octets.kp T.b_number_octets .nil pass0 (pa_cons (pe_callB call_len rfl T.z_len boot_len (pa_cons (pv 0) pa_nil)) (pa_cons (pv 1) (pa_cons (pv 2) pa_nil)))) (pe_lc (own := [("character", 3)]) (g := (gName 3)) (tt := tYes)  rfl sc_string_octets.nd (pi_str (pv 0)) (blkOk_by (own := [("character", 3)]) (N := ["text", "prefix", "mark", "character"]) (sc := defScope s_string_octets) (by decide +kernel)) (fun _ _ _ _ _ => (pg_name (i := 3) sc_string_octets.nd rfl (Or.inl rfl))) (fun _ _ _ _ _ => pts_nil) (fun _ _ _ _ _ => (pe_callB call_ord rfl T.z_ord boot_ord (pa_cons (pv 3) pa_nil)))))))), ?_⟩
    have hl := txt_len ht
    refine ⟨_, rfl, .str x, "str", rfl, .str _, fun y e => ?_, fun H1 s1 => ?_⟩
    · cases e; omega
    refine ⟨_, rfl, ?_⟩
    refine ifF (by rw [ht]; rfl) ?_
    refine ⟨_, rfl, _, _, rfl, ⟨len100 (by omega), rfl⟩, ?_⟩
    refine ⟨_, rfl, _, rfl, x.length, b, m, rfl, by omega, M, fun p H2 hp s2 hp2 => ?_⟩
    have hz := numOct_len x.length b m
    refine ⟨_, rfl, _, rfl, fun D hD => ?_⟩
    refine lc_map walk_str (fun i => V.int ((x.cps.toList.getD i 0 : Nat) : Int)) (by show x.length ≤ 10000000; omega) hD (fun _ _ => True.intro) ?_ ?_
    · rintro i y H' H'' Q' Z hi s3 ⟨rfl, c, hc, rfl⟩ q'
      refine ⟨rfl, yesI ?_⟩
      refine ⟨_, rfl, _, rfl, rfl, ?_⟩
      have e4 : x.cps.toList.getD i 0 = c := getD_of 0 (cps_at hc)
      have := q' H'' (Same.refl _)
      rw [e4] at this
      exact this
    · intro H' s3 hD'
      have e5 : (List.range x.cps.size).map (fun i => V.int ((x.cps.toList.getD i 0 : Nat) : Int)) = (x.cps.toList.map fun (c : Nat) => (c : Int)).map V.int := by
        rw [List.map_map]
        exact range_map x.cps.toList (fun (c : Nat) => V.int (c : Int)) 0
      rw [e5] at hD'
      refine ⟨_, _, _, _, rfl, rfl, s3 _ _ hp2, hD', ?_, fun r hr' => ?_⟩
      · rw [List.length_map, List.length_map, List.length_map, ← str_len, sizeLine_eq]
        omega
      · refine q r _ ((s1.trans s2).trans s3 |>.free hr') ((s1.trans s2).trans s3 |>.put ((s1.trans s2).trans s3 |>.free hr')) ?_
        rw [upd_same, List.map_append]
theorem ok_is_stream (T : Txt K mg) : FnOk P w K mg base CX0 2 T.f_is_stream T.d_is_stream ["thing"] (sp_is_stream K) := by
  refine T.F_is_stream.ok sc_is_stream (fun vs H Q E h => ?_) (fun cdv A outer s H vs Q E hr h => ?_)
  · obtain ⟨v, t, rfl, _⟩ := h
    rfl
  · obtain ⟨v, t, rfl, k, q⟩ := h
    refine ⟨_, (pss_one (ps_ret (pe_call (ok_is_between T) (hr.mono (by decide)) rfl T.g_is_between T.F_is_between.kp T.b_is_between .nil pass0 (pa_cons (pv 0) (pa_cons pe_int (pa_cons (pe_glob (v := .int 20) rfl T.g_STREAM_MOST ⟨_, rfl⟩) pa_nil)))))), ?_⟩
    exact ⟨_, rfl, v, t, 0, 20, rfl, k, q⟩

theorem ok_is_name (T : Txt K mg) : FnOk P w K mg base CX0 2 T.f_is_name T.d_is_name ["thing"] (sp_is_name K) := by
  refine T.F_is_name.ok sc_is_name (fun vs H Q E h => ?_) (fun cdv A outer s H vs Q E hr h => ?_)
  · obtain ⟨v, t, rfl, _⟩ := h
    rfl
  · obtain ⟨v, t, rfl, k, hz, q⟩ := h
    refine ⟨_, (pss_one (ps_ret (pe_call (ok_is_text T) (hr.mono (by decide)) rfl T.g_is_text T.F_is_text.kp T.b_is_text .nil pass0 (pa_cons (pv 0) (pa_cons pe_int (pa_cons (pe_glob (v := .int 20) rfl T.g_NAME_MOST ⟨_, rfl⟩) pa_nil)))))), ?_⟩
    exact ⟨_, rfl, v, t, 1, 20, rfl, k, hz, q⟩
theorem ok_value_octets (T : Txt K mg) : FnOk P w K mg base CX0 5 T.f_value_octets T.d_value_octets ["value"] (sp_value_octets) := by
  refine T.F_value_octets.ok sc_value_octets (fun vs H Q E h => ?_) (fun cdv A outer s H vs Q E hr h => ?_)
  · obtain ⟨x, rfl, _⟩ := h
    rfl
  · obtain ⟨x, rfl, hx, q⟩ := h
    refine ⟨_, (pss_one (ps_ret (pe_call (ok_string_octets T) (hr.mono (by decide)) rfl T.g_string_octets T.F_string_octets.kp T.b_string_octets .nil pass0 (pa_cons (pv 0) (pa_cons (pe_glob (v := .int 7) rfl T.g_VALUE_PREFIX ⟨_, rfl⟩) (pa_cons pe_int pa_nil)))))), ?_⟩
    exact ⟨_, rfl, x, 7, 0, rfl, hx, ⟨by decide, by decide, by decide, by decide +kernel⟩, q⟩
theorem ok_are_octets (T : Txt K mg) : FnOk P w K mg base CX0 2 T.f_are_octets T.d_are_octets ["thing"] (sp_are_octets K) := by
  refine T.F_are_octets.ok sc_are_octets (fun vs H Q E h => ?_) (fun cdv A outer s H vs Q E hr h => ?_)
  · obtain ⟨v, rfl, _⟩ := h
    rfl
  · obtain ⟨v, rfl, h⟩ := h
    refine ⟨_, (pss_one (ps_ret (pe_and (pe_callB call_isi rfl T.z_isinstance boot_isinstance (pa_cons (pv 0) (pa_cons (pe_bltn (v := .ty "list") rfl T.z_list boot_list rfl) pa_nil))) (pe_one (pe_callB (cr_all rfl) rfl T.z_all boot_all (pa_cons (pe_lc (own := [("octet", 1)]) (g := (gName 1)) (tt := tYes)  rfl sc_are_octets.nd (pi_list (pv 0)) (blkOk_by (own := [("octet", 1)]) (N := ["thing", "octet"]) (sc := defScope s_are_octets) (by decide +kernel)) (fun _ _ _ _ _ => (pg_name (i := 1) sc_are_octets.nd rfl (Or.inl rfl))) (fun _ _ _ _ _ => pts_nil) (fun _ _ _ _ _ => (pe_call (ok_is_between T) (hr.mono (by decide)) rfl T.g_is_between T.F_is_between.kp T.b_is_between .nil pass0 (pa_cons (pv 1) (pa_cons pe_int (pa_cons pe_int pa_nil)))))) pa_nil)))))), ?_⟩
    rcases h with ⟨a, xs, rfl, hs, hl, hk, q⟩ | ⟨t, k, ht, q⟩
    · have k : Kind K H (.ref a) "list" := .lst hs
      refine ⟨_, rfl, _, _, _, _, _, rfl, .ty _, k.ty, k.kit, _, rfl, ?_⟩
      refine iteT ?_
      refine ⟨_, rfl, a, rfl, ⟨xs, hs⟩, fun D hD => ?_⟩
      refine lc_map (walk_list (xs := xs)) (fun i => V.bl (btw (xs.getD i .non) 0 255)) (by omega) hD (fun _ s1 => s1.seq hs) ?_ ?_
      · rintro i y H' H'' Q' Z hi s1 ⟨rfl, hy⟩ q'
        refine ⟨rfl, yesI ?_⟩
        obtain ⟨ty, hty⟩ := hk y (List.mem_of_getElem? hy)
        refine ⟨_, rfl, y, ty, 0, 255, rfl, hty.keep s1, ?_⟩
        have := q' H'' (Same.refl _)
        rw [getD_of .non hy] at this
        exact this
      · intro H' s1 hD'
        refine ⟨_, xs.map fun x => btw x 0 255, rfl, .inl (.inl ?_), ?_⟩
        · rw [hD']
          have : (List.range xs.length).map (fun i => V.bl (btw (xs.getD i .non) 0 255)) = (xs.map fun x => btw x 0 255).map V.bl := by
            rw [List.map_map]
            exact range_map xs (fun c => V.bl (btw c 0 255)) .non
          rw [this]
        · refine Q_bl (q H' s1) ?_
          show xs.all _ = _
          simp [List.all_map]
    · refine ⟨_, rfl, _, _, _, _, _, rfl, .ty _, k.ty, k.kit, _, rfl, ifF ?_ (q H (Same.refl _))⟩
      cases k <;> first | rfl | (exfalso; revert ht; decide)
theorem ok_is_field (T : Txt K mg) : FnOk P w K mg base CX0 3 T.f_is_field T.d_is_field ["thing"] (sp_chk K dField) := by
  refine T.F_is_field.ok sc_is_field (fun vs H Q E h => ?_) (fun cdv A outer s H vs Q E hr h => ?_)
  · obtain ⟨v, d, rfl, _⟩ := h
    rfl
  · obtain ⟨v, d, rfl, hv, hw, q⟩ := h
    refine ⟨_, (pss_one (ps_ret (pe_and (pe_callB call_isi rfl T.z_isinstance boot_isinstance (pa_cons (pv 0) (pa_cons (pe_bltn (v := .ty "tuple") rfl T.z_tuple boot_tuple rfl) pa_nil))) (pe_and (pe_cmpR op_eq (pe_callB call_len rfl T.z_len boot_len (pa_cons (pv 0) pa_nil)) pe_int (nomark _)) (pe_and (pe_call (ok_is_name T) (hr.mono (by decide)) rfl T.g_is_name T.F_is_name.kp T.b_is_name .nil pass0 (pa_cons (pe_ix ix_tup (pv 0) pe_int (fun _ _ => rfl)) pa_nil)) (pe_one (pe_call (ok_is_value T) (hr.mono (by decide)) rfl T.g_is_value T.F_is_value.kp T.b_is_value .nil pass0 (pa_cons (pe_ix ix_tup (pv 0) pe_int (fun _ _ => rfl)) pa_nil)))))))), ?_⟩
    have k := hv.kind
    refine ⟨_, rfl, _, _, _, _, _, rfl, .ty _, k.ty, k.kit, _, rfl, ifb (fun e => ?_) (fun e => ?_)⟩
    · obtain ⟨a, xs, ds, rfl, rfl, hs, ha⟩ := hv.asT e
      refine ⟨_, rfl, _, _, rfl, .inr ⟨_, hs, rfl⟩, rfl, _, rfl, ifb (fun e2 => ?_) (fun e2 => ?_)⟩
      · obtain ⟨x0, x1, d0, d1, rfl, rfl, h0, h1⟩ := len2 ha (nAt (m := 2) e2)
        have w0 := w_tup (d := d0) (by simp) hw
        have w1 := w_tup (d := d1) (by simp) hw
        refine ⟨_, rfl, _, _, _, _, rfl, rfl, hs, rfl, x0, _, rfl, h0.kind, h0.strLe w0, fun H1 s1 => ⟨_, rfl, ifb (fun e3 => ?_) (fun e3 => ?_)⟩⟩
        · refine ⟨_, rfl, _, _, _, _, rfl, rfl, s1.tup hs, rfl, x1, _, rfl, (h1.keep s1).kind, h1.strLe w1, fun H2 s2 => ?_⟩
          refine Q_bl (q H2 (s1.trans s2)) ?_
          rw [h0.txt] at e3
          rw [h1.txt]
          show (dTxt d0 1 20 && dTxt d1 0 40) = _
          rw [e3]; rfl
        · refine Q_bl (q H1 s1) ?_
          rw [h0.txt] at e3
          show (dTxt d0 1 20 && dTxt d1 0 40) = _
          rw [e3]; rfl
      · exact Q_bl (q H (Same.refl _)) (dField_ne (by rw [← ha.len]; exact nNe (m := 2) e2))
    · exact Q_bl (q H (Same.refl _)) (dField_no e)
theorem ok_is_tuple_of_fields (T : Txt K mg) : FnOk P w K mg base CX0 4 T.f_is_tuple_of_fields T.d_is_tuple_of_fields ["thing", "most"] (sp_chkM K dFields) := by
  refine T.F_is_tuple_of_fields.ok sc_is_tuple_of_fields (fun vs H Q E h => ?_) (fun cdv A outer s H vs Q E hr h => ?_)
  · obtain ⟨v, d, m, rfl, _⟩ := h
    rfl
  · obtain ⟨v, d, m, rfl, hv, hw, q⟩ := h
    refine ⟨_, (pss_cons (ps_if (PW.pt (pw_or (pt_not (pt_val (pe_callB call_isi rfl T.z_isinstance boot_isinstance (pa_cons (pv 0) (pa_cons (pe_bltn (v := .ty "tuple") rfl T.z_tuple boot_tuple rfl) pa_nil))))) (pw_or1 (pt_cmpR op_gt (pe_callB call_len rfl T.z_len boot_len (pa_cons (pv 0) pa_nil)) (pv 1) (nomark _))))) (pss_one (ps_ret pe_bl)) pss_nil)
      (pss_one (ps_ret (pe_callB (cr_all rfl) rfl T.z_all boot_all (pa_cons (pe_lc (own := [("field", 2)]) (g := (gName 2)) (tt := tYes)  rfl sc_is_tuple_of_fields.nd (pi_tup (pv 0)) (blkOk_by (own := [("field", 2)]) (N := ["thing", "most", "field"]) (sc := defScope s_is_tuple_of_fields) (by decide +kernel)) (fun _ _ _ _ _ => (pg_name (i := 2) sc_is_tuple_of_fields.nd rfl (Or.inl rfl))) (fun _ _ _ _ _ => pts_nil) (fun _ _ _ _ _ => (pe_call (ok_is_field T) (hr.mono (by decide)) rfl T.g_is_field T.F_is_field.kp T.b_is_field .nil pass0 (pa_cons (pv 2) pa_nil)))) pa_nil))))), ?_⟩
    have k := hv.kind
    refine ⟨_, rfl, _, _, _, _, _, rfl, .ty _, k.ty, k.kit, _, rfl, ?_⟩
    refine ifb (fun e => ?_) (fun e => ?_)
    · exact iteT (Q_bl (q H (Same.refl _)) (dFields_no (nb e)))
    · obtain ⟨a, xs, ds, rfl, rfl, hs, ha⟩ := hv.asT (nb' e)
      have hlen := ha.len
      refine ⟨_, rfl, _, _, rfl, .inr ⟨_, hs, rfl⟩, _, rfl, _, _, rfl, rfl, _, rfl, ifb (fun e2 => ?_) (fun e2 => ?_)⟩
      · refine Q_bl (q H (Same.refl _)) ?_
        have e2' : (m : Int) < (xs.length : Int) := by simpa using e2
        show (decide (ds.length ≤ m) && _) = false
        rw [decide_eq_false (by omega), Bool.false_and]
      · have e2' : ¬ ((m : Int) < (xs.length : Int)) := by simpa using e2
        refine ⟨_, rfl, a, rfl, ⟨xs, hs⟩, fun D hD => ?_⟩
        refine lc_map (walk_tup (xs := xs)) (fun i => V.bl (dField (ds.getD i .none))) (by have := w_tupLen hw; omega) hD (fun _ s1 => s1.tup hs) ?_ ?_
        · rintro i y H' H'' Q' Z hi s1 ⟨rfl, hy⟩ q'
          refine ⟨rfl, yesI ?_⟩
          obtain ⟨d, hd, hdv⟩ := ha.at hy
          refine ⟨_, rfl, y, d, rfl, hdv.keep s1, w_tup (List.mem_of_getElem? hd) hw, fun H4 s4 => ?_⟩
          have := q' H4 s4
          rw [getD_of .none hd] at this
          exact this
        · intro H' s1 hD'
          refine ⟨_, ds.map dField, rfl, .inl (.inl (by rw [hD', tests_of dField ha])), ?_⟩
          refine Q_bl (q H' s1) ?_
          show (decide (ds.length ≤ m) && ds.all dField) = _
          rw [decide_eq_true (by omega), Bool.true_and, all_id]
theorem ok_is_setting (T : Txt K mg) : FnOk P w K mg base CX0 5 T.f_is_setting T.d_is_setting ["thing"] (sp_chk K dSetting) := by
  refine T.F_is_setting.ok sc_is_setting (fun vs H Q E h => ?_) (fun cdv A outer s H vs Q E hr h => ?_)
  · obtain ⟨v, d, rfl, _⟩ := h
    rfl
  · obtain ⟨v, d, rfl, hv, hw, q⟩ := h
    refine ⟨_, (pss_cons (ps_if (PW.pt (pw_or (pt_not (pt_val (pe_callB call_isi rfl T.z_isinstance boot_isinstance (pa_cons (pv 0) (pa_cons (pe_bltn (v := .ty "tuple") rfl T.z_tuple boot_tuple rfl) pa_nil))))) (pw_or1 (pt_cmpR op_ne (pe_callB call_len rfl T.z_len boot_len (pa_cons (pv 0) pa_nil)) pe_int (nomark _))))) (pss_one (ps_ret pe_bl)) pss_nil)
      (pss_cons (ps_asg (pv 0) (pg_tup rfl (pgs_cons (pg_name (i := 1) sc_is_setting.nd rfl (Or.inl rfl)) (pgs_cons (pg_name (i := 2) sc_is_setting.nd rfl (Or.inl rfl)) (pgs_cons (pg_name (i := 3) sc_is_setting.nd rfl (Or.inl rfl)) pgs_nil)))))
      (pss_cons (ps_if (pt_not (pt_val (pe_call (ok_is_tuple_of_fields T) (hr.mono (by decide)) rfl T.g_is_tuple_of_fields T.F_is_tuple_of_fields.kp T.b_is_tuple_of_fields .nil pass0 (pa_cons (pv 1) (pa_cons (pe_glob (v := .int 12) rfl T.g_FIXED_MOST ⟨_, rfl⟩) pa_nil))))) (pss_one (ps_ret pe_bl)) pss_nil)
      (pss_one (ps_ret (pe_and (pe_call (ok_is_between T) (hr.mono (by decide)) rfl T.g_is_between T.F_is_between.kp T.b_is_between .nil pass0 (pa_cons (pv 2) (pa_cons pe_int (pa_cons (pe_glob (v := .int 120) rfl T.g_ROOM_MOST ⟨_, rfl⟩) pa_nil)))) (pe_one (pe_call (ok_is_between T) (hr.mono (by decide)) rfl T.g_is_between T.F_is_between.kp T.b_is_between .nil pass0 (pa_cons (pv 3) (pa_cons pe_int (pa_cons (pe_glob (v := .int 4) rfl T.g_WAITING_MOST ⟨_, rfl⟩) pa_nil))))))))))), ?_⟩
    have k := hv.kind
    refine ⟨_, rfl, _, _, _, _, _, rfl, .ty _, k.ty, k.kit, _, rfl, ?_⟩
    refine ifb (fun e => ?_) (fun e => ?_)
    · exact iteT (Q_bl (q H (Same.refl _)) (dSetting_no (nb e)))
    · obtain ⟨a, xs, ds, rfl, rfl, hs, ha⟩ := hv.asT (nb' e)
      refine ⟨_, rfl, _, _, rfl, .inr ⟨_, hs, rfl⟩, rfl, _, rfl, ifb (fun e2 => ?_) (fun e2 => ?_)⟩
      · exact Q_bl (q H (Same.refl _)) (dSetting_ne (by rw [← ha.len]; exact nNe (m := 3) (nb e2)))
      · obtain ⟨x0, x1, x2, d0, d1, d2, rfl, rfl, h0, h1, h2⟩ := len3 ha (nAt (m := 3) (nb' e2))
        have w0 := w_tup (d := d0) (by simp) hw
        refine ⟨_, rfl, a, _, rfl, hs, rfl, ⟨_, _, rfl, ⟨_, _, rfl, ⟨_, _, rfl, rfl, ?_⟩⟩⟩⟩
        refine ⟨_, rfl, x0, d0, 12, rfl, h0, w0, fun H1 s1 => ⟨_, rfl, ifb (fun e3 => ?_) (fun e3 => ?_)⟩⟩
        · refine Q_bl (q H1 s1) ?_
          have e4 : dFields 12 d0 = false := by simpa using e3
          show (dFields 12 d0 && _ && _) = false
          rw [e4]; rfl
        · have e4 : dFields 12 d0 = true := by simpa using e3
          refine ⟨_, rfl, x1, _, 0, 120, rfl, (h1.keep s1).kind, _, rfl, ifb (fun e5 => ?_) (fun e5 => ?_)⟩
          · refine ⟨_, rfl, x2, _, 0, 4, rfl, (h2.keep s1).kind, Q_bl (q H1 s1) ?_⟩
            rw [h1.btw] at e5
            rw [h2.btw]
            show (dFields 12 d0 && dBtw d1 0 120 && dBtw d2 0 4) = _
            rw [e4, e5]; rfl
          · refine Q_bl (q H1 s1) ?_
            rw [h1.btw] at e5
            show (dFields 12 d0 && dBtw d1 0 120 && dBtw d2 0 4) = _
            rw [e4, e5]; rfl

theorem ok_are_octets__v (T : Txt K mg) : FnOk P w K mg base CX0 2 T.f_are_octets T.d_are_octets ["thing"] (sp_chk K dOctets) := by
  refine T.F_are_octets.ok sc_are_octets (fun vs H Q E h => ?_) (fun cdv A outer s H vs Q E hr h => ?_)
  · obtain ⟨v, d, rfl, _⟩ := h
    rfl
  · obtain ⟨v, d, rfl, hv, hw, q⟩ := h
    refine ⟨_, (pss_one (ps_ret (pe_and (pe_callB call_isi rfl T.z_isinstance boot_isinstance (pa_cons (pv 0) (pa_cons (pe_bltn (v := .ty "list") rfl T.z_list boot_list rfl) pa_nil))) (pe_one (pe_callB (cr_all rfl) rfl T.z_all boot_all (pa_cons (pe_lc (own := [("octet", 1)]) (g := (gName 1)) (tt := tYes)  rfl sc_are_octets.nd (pi_list (pv 0)) (blkOk_by (own := [("octet", 1)]) (N := ["thing", "octet"]) (sc := defScope s_are_octets) (by decide +kernel)) (fun _ _ _ _ _ => (pg_name (i := 1) sc_are_octets.nd rfl (Or.inl rfl))) (fun _ _ _ _ _ => pts_nil) (fun _ _ _ _ _ => (pe_call (ok_is_between T) (hr.mono (by decide)) rfl T.g_is_between T.F_is_between.kp T.b_is_between .nil pass0 (pa_cons (pv 1) (pa_cons pe_int (pa_cons pe_int pa_nil)))))) pa_nil)))))), ?_⟩
    have k := hv.kind
    refine ⟨_, rfl, _, _, _, _, _, rfl, .ty _, k.ty, k.kit, _, rfl, ifb (fun e => ?_) (fun e => ?_)⟩
    · obtain ⟨a, xs, ds, rfl, rfl, hs, ha⟩ := hv.asL e
      refine ⟨_, rfl, a, rfl, ⟨xs, hs⟩, fun D hD => ?_⟩
      refine lc_map (walk_list (xs := xs)) (fun i => V.bl (dBtw (ds.getD i .none) 0 255)) (by have := w_lstLen hw; have := ha.len; omega) hD (fun _ s1 => s1.seq hs) ?_ ?_
      · rintro i y H' H'' Q' Z hi s1 ⟨rfl, hy⟩ q'
        refine ⟨rfl, yesI ?_⟩
        obtain ⟨d, hd, hdv⟩ := ha.at hy
        refine ⟨_, rfl, y, _, 0, 255, rfl, (hdv.keep s1).kind, ?_⟩
        have := q' H'' (Same.refl _)
        rw [getD_of .none hd] at this
        rw [hdv.btw]
        exact this
      · intro H' s1 hD'
        rw [tests_of (fun d => dBtw d 0 255) ha] at hD'
        refine ⟨_, ds.map fun d => dBtw d 0 255, rfl, .inl (.inl hD'), Q_bl (q H' s1) ?_⟩
        show (ds.all fun d => dBtw d 0 255) = _
        rw [all_id]
    · exact Q_bl (q H (Same.refl _)) (dOctets_no e)

theorem ok_entry_size (T : Txt K mg) : FnOk P w K mg base CX0 1 T.f_entry_size T.d_entry_size ["field"] (sp_entry_size K) := by
  refine T.F_entry_size.ok sc_entry_size (fun vs H Q E h => ?_) (fun cdv A outer s H vs Q E hr h => ?_)
  · obtain ⟨v, f, rfl, _⟩ := h
    rfl
  · obtain ⟨v, f, rfl, ⟨a, rfl, hs⟩, hf, q⟩ := h
    refine ⟨_, (pss_one (ps_ret (pe_op op_add (pe_op op_add (pe_callB call_len rfl T.z_len boot_len (pa_cons (pe_ix ix_tup (pv 0) pe_int (fun _ _ => rfl)) pa_nil)) (pe_callB call_len rfl T.z_len boot_len (pa_cons (pe_ix ix_tup (pv 0) pe_int (fun _ _ => rfl)) pa_nil))) (pe_glob (v := .int 4) rfl T.g_SIZE_MORE ⟨_, rfl⟩)))), ?_⟩
    have z := fsz_ge hf
    have e : (f.1.length + f.2.length + 4) = fsz f := rfl
    refine ⟨_, rfl, _, _, _, _, rfl, rfl, hs, rfl, _, _, rfl, ⟨len100 (by omega), rfl⟩, _, rfl, _, _, _, _, rfl, rfl, hs, rfl, _, _, rfl, ⟨len100 (by omega), rfl⟩, _, _, rfl, rfl, _, _, rfl, rfl, ?_⟩
    exact Q_int q (by omega)
theorem ok_BadTable_init (T : Txt K mg) : FnOk P w K mg base CX0 1 T.f_BadTable_init T.d_BadTable_init ["self", "number"] (sp_err T.C_BadTable "number") := by
  refine T.F_BadTable_init.ok sc_BadTable_init (fun vs H Q E h => ?_) (fun cdv A outer s H vs Q E hr h => ?_)
  · obtain ⟨a, k, rfl, _⟩ := h
    rfl
  · obtain ⟨a, k, rfl, hk, ha, q⟩ := h
    refine ⟨_, (pss_cons (ps_expr (pe_feinit T.B_FieldError rfl (pa_cons (pv 0) (pa_cons (pe_joined (.cons pe_str (.cons (pe_fmt (pv 1)) (.cons pe_str .nil)))) pa_nil))))
      (pss_one (ps_ost (pv 0) (pv 1)))), ?_⟩
    have ht := toString_le hk
    have hz : (Str.empty ++ (("the instruction " : String) : Str)).length = 16 := by decide +kernel
    have hz2 : (((" cannot be carried out" : String) : Str)).length = 22 := by decide +kernel
    refine ⟨_, rfl, _, rfl, by rw [hz, sizeLine_eq]; decide, _, rfl, .inr ⟨k, rfl, log_le hk, _, rfl, ?_, _, rfl, ?_, ?_⟩⟩
    · rw [strLen_append, hz, sizeLine_eq]
      omega
    · rw [strLen_append, strLen_append, hz, hz2, sizeLine_eq]; omega
    refine ⟨a, T.C_BadTable, _, rfl, by show 1 ≤ 1000; decide, T.E_BadTable.ox, ha, ?_⟩
    exact ⟨_, rfl, _, rfl, a, T.C_BadTable, rfl, T.E_BadTable.ox, T.E_BadTable.no, .inl ⟨ha, q⟩⟩
theorem ok_Table_init (T : Txt K mg) : FnOk P w K mg base CX0 1 T.f_Table_init T.d_Table_init ["self", "setting"] (sp_Table_init K) := by
  refine T.F_Table_init.ok sc_Table_init (fun vs H Q E h => ?_) (fun cdv A outer s H vs Q E hr h => ?_)
  · obtain ⟨a, C, dx, sv, F, r, w, rfl, _⟩ := h
    rfl
  · obtain ⟨a, C, dx, sv, F, r, w, rfl, ha, c, n1, n2, n3, n4, hS, q⟩ := h
    refine ⟨_, (pss_cons (ps_fld (pv 0) (pv 1) rfl)
      (pss_cons (ps_fld (pv 0) (pe_ix ix_tup (pv 1) pe_int (fun _ _ => rfl)) rfl)
      (pss_cons (ps_fld (pv 0) pe_int rfl)
      (pss_one (ps_fld (pv 0) pe_dnewK rfl))))), ?_⟩
    refine ⟨_, rfl, _, rfl, _, _, _, _, rfl, ha, c, n1, by decide, ?_⟩
    obtain ⟨sa, t, xs, rfl, g1, g2, g3⟩ := hS.ts (H' := upd H a (.ins C dx (putF "setting" sv []))) (TS.at ha nt_ins)
    refine ⟨_, rfl, _, _, _, _, rfl, rfl, g1, rfl, _, rfl, _, _, _, _, rfl, upd_same, c, n2, by show 1 < 1000; decide, ?_⟩
    refine ⟨_, rfl, _, _, _, _, rfl, upd_same, c, n3, by show 2 < 1000; decide, ?_⟩
    refine fun D hD => ?_
    have hDa : D ≠ a := fun e => by rw [e, upd_same] at hD; cases hD
    have hD0 : H D = none := by rw [upd_ne hDa, upd_ne hDa, upd_ne hDa] at hD; exact hD
    refine ⟨_, rfl, _, _, _, _, rfl, by rw [upd_ne (Ne.symm hDa)]; exact upd_same, c, n4, by show 3 < 1000; decide, ?_⟩
    refine q D _ hDa hD0 (fun b h1 h2 => ?_) upd_same (by rw [upd_ne hDa]; exact upd_same)
    rw [upd_ne h1, upd_ne h2, upd_ne h1, upd_ne h1, upd_ne h1]
theorem ok_Table_has_room (T : Txt K mg) : FnOk P w K mg base CX0 2 T.f_Table_has_room T.d_Table_has_room ["self", "field"] (sp_has_room K T.C_Table) := by
  refine T.F_Table_has_room.ok sc_Table_has_room (fun vs H Q E h => ?_) (fun cdv A outer s H vs Q E hr h => ?_)
  · obtain ⟨a, D, sv, v, F, r, w, t, f, rfl, _⟩ := h
    rfl
  · obtain ⟨a, D, sv, v, F, r, w, t, f, rfl, hT, hv, hf, q⟩ := h
    obtain ⟨dx, e⟩ := hT.ob
    refine ⟨_, (pss_one (ps_ret (pe_and (pe_cmpR op_le (pe_call (ok_entry_size T) (hr.mono (by decide)) rfl T.g_entry_size T.F_entry_size.kp T.b_entry_size .nil pass0 (pa_cons (pv 1) pa_nil)) (pe_fld (pv 0) rfl) (nomark _)) (pe_one (pe_cmpR op_lt (pe_fld (pv 0) rfl) (pe_glob (v := .int 9999) rfl T.g_NUMBER_MOST ⟨_, rfl⟩) (nomark _)))))), ?_⟩
    refine ⟨_, rfl, v, f, rfl, hv, hf, ?_⟩
    refine ⟨_, rfl, _, _, _, _, _, rfl, e, T.cl_Table, T.nA_Table_bound, rfl, _, _, rfl, rfl, _, rfl, ifb (fun h => ?_) (fun h => ?_)⟩
    · refine ⟨_, rfl, _, _, _, _, _, rfl, e, T.cl_Table, T.nA_Table_made, rfl, _, _, rfl, rfl, Q_bl q ?_⟩
      have h' : fsz f ≤ t.bound := by have : ((fsz f : Nat) : Int) ≤ (t.bound : Nat) := of_decide_eq_true h; omega
      unfold roomT
      rw [decide_eq_true h', Bool.true_and]
      exact decide_eq_decide.mpr ⟨fun z => by omega, fun z => by omega⟩
    · refine Q_bl q ?_
      have h' : ¬ fsz f ≤ t.bound := by have : ¬ ((fsz f : Nat) : Int) ≤ (t.bound : Nat) := of_decide_eq_false h; omega
      unfold roomT
      rw [decide_eq_false h', Bool.false_and]
theorem ok_Table_drop (T : Txt K mg) : FnOk P w K mg base CX0 1 T.f_Table_drop T.d_Table_drop ["self", "numbers"] (sp_drop K T.C_Table) := by
  refine T.F_Table_drop.ok sc_Table_drop (fun vs H Q E h => ?_) (fun cdv A outer s H vs Q E hr h => ?_)
  · obtain ⟨a, D, L, sv, F, r, w, b, m, t, rfl, _⟩ := h
    rfl
  · obtain ⟨a, D, L, sv, F, r, w, b, m, t, rfl, hT, ok, hL, q⟩ := h
    obtain ⟨dx, e⟩ := hT.ob
    have hDa := hT.ne
    obtain ⟨kvs, hD, hp⟩ := id hT.en
    have hLD : L ≠ D := fun z => by rw [z, hD] at hL; cases hL
    refine ⟨_, (pss_one (ps_for PassesOwn.never rfl (pi_list (pv 1)) (pg_name (i := 2) sc_Table_drop.nd rfl (Or.inl rfl))
        (pss_one (ps_ddel (pe_fld (pv 0) rfl) (pv 2))))), ?_⟩
    refine ⟨_, rfl, L, rfl, ⟨_, SqL.of hL⟩, ?_⟩
    have eg := gone_keep b m t.es
    refine for_list (K := K) (a := L) (xs := eInts (goneE b m t.es)) (fun i σ H' => ∃ v2 : Option V, σ = [some (.ref a), some (.ref L), v2] ∧ ButS [D] H H' ∧ EntV K H' D ((goneE b m t.es).drop i ++ keepE b m t.es)) ⟨_, rfl, .of (Same.refl _), by rw [List.drop_zero, eg]; exact hT.en⟩ (fun i σ H' _ ⟨_, _, k, _⟩ => SqL.of (k _ _ (by simpa using hLD) hL)) ?_ ?_
    · rintro i x σ H' hx ⟨v2, rfl, k, kv, hD', hp'⟩
      unfold eInts at hx
      rw [List.getElem?_map] at hx
      obtain ⟨en, hen, rfl⟩ := Option.map_eq_some_iff.mp hx
      have hd : (goneE b m t.es).drop i = en :: (goneE b m t.es).drop (i + 1) := by
        obtain ⟨hlt, he⟩ := List.getElem?_eq_some_iff.mp hen
        rw [List.drop_eq_getElem_cons hlt, he]
      rw [hd] at hp'
      have asc : (((en :: (goneE b m t.es).drop (i + 1)) ++ keepE b m t.es).map (·.1)).Pairwise (· < ·) := by
        refine List.Pairwise.sublist (List.Sublist.map _ ?_) ok.asc
        have h1 : ((goneE b m t.es).drop i ++ keepE b m t.es).Sublist (goneE b m t.es ++ keepE b m t.es) := List.Sublist.append (List.drop_sublist _ _) (List.Sublist.refl _)
        rw [eg, hd] at h1
        exact h1
      have dr := drop_get (n := en.1) hp'
      have dh := dropE_head (e := en) (es := (goneE b m t.es).drop (i + 1) ++ keepE b m t.es) asc
      rw [List.cons_append, dh] at dr
      have hdx := k _ _ (by simpa using Ne.symm hDa) e
      refine ⟨_, rfl, _, _, _, _, _, rfl, hdx, T.cl_Table, T.nA_Table_kept, rfl, _, rfl, D, kv, nkey en.1, rfl, hD', rfl, ?_, ?_⟩
      · rcases look_get (n := en.1) hp' with ⟨_, h0⟩ | ⟨v, f, hv, _, _⟩
        · obtain ⟨g, hg⟩ := look_has (es := en :: (goneE b m t.es).drop (i + 1) ++ keepE b m t.es) (n := en.1) (f := en.2) (List.mem_append_left _ (List.mem_cons_self ..))
          rw [h0] at hg; cases hg
        · rw [hv]; rfl
      · refine ⟨_, rfl, k.trans (ButS.set (by simp)), _, upd_same, pmap (fun _ _ z => z.ts (TS.at hD' nt_dK)) dr⟩
    · rintro σ H' ⟨v2, rfl, k, hE⟩
      refine q H' k ?_
      have : (eInts (goneE b m t.es)).length = (goneE b m t.es).length := by unfold eInts; rw [List.length_map]
      rw [this, List.drop_length, List.nil_append] at hE
      exact hE

theorem ok_is_instruction (T : Txt K mg) : FnOk P w K mg base CX0 3 T.f_is_instruction T.d_is_instruction ["thing"] (sp_is_ins K) := by
  refine T.F_is_instruction.ok sc_is_instruction (fun vs H Q E h => ?_) (fun cdv A outer s H vs Q E hr h => ?_)
  · obtain ⟨v, i, rfl, _⟩ := h
    rfl
  · obtain ⟨v, i, rfl, ⟨a, rfl, hs⟩, ok, q⟩ := h
    refine ⟨_, (pss_cons (ps_if (PW.pt (pw_or (pt_not (pt_val (pe_callB call_isi rfl T.z_isinstance boot_isinstance (pa_cons (pv 0) (pa_cons (pe_bltn (v := .ty "tuple") rfl T.z_tuple boot_tuple rfl) pa_nil))))) (pw_or1 (pt_cmpR op_notIn_seq (pe_callB call_len rfl T.z_len boot_len (pa_cons (pv 0) pa_nil)) (pe_tup (pa_cons pe_int (pa_cons pe_int pa_nil))) rfl)))) (pss_one (ps_ret pe_bl)) pss_nil)
      (pss_cons (ps_if (pt_cmpR op_eq (pe_callB call_len rfl T.z_len boot_len (pa_cons (pv 0) pa_nil)) pe_int (nomark _)) (pss_one (ps_ret (pe_and (pe_cmpR op_in_seq (pe_ix ix_tup (pv 0) pe_int (fun _ _ => rfl)) (pe_tup (pa_cons pe_str (pa_cons pe_str pa_nil))) rfl) (pe_one (pe_call (ok_is_number T) (hr.mono (by decide)) rfl T.g_is_number T.F_is_number.kp T.b_is_number .nil pass0 (pa_cons (pe_ix ix_tup (pv 0) pe_int (fun _ _ => rfl)) pa_nil)))))) pss_nil)
      (pss_cons (ps_asg (pv 0) (pg_tup rfl (pgs_cons (pg_name (i := 1) sc_is_instruction.nd rfl (Or.inl rfl)) (pgs_cons (pg_name (i := 2) sc_is_instruction.nd rfl (Or.inl rfl)) (pgs_cons (pg_name (i := 3) sc_is_instruction.nd rfl (Or.inl rfl)) pgs_nil)))))
      (pss_cons (ps_if (pt_cmpR op_eq (pv 1) pe_str (nomark _)) (pss_one (ps_ret (pe_and (pe_call (ok_is_name T) (hr.mono (by decide)) rfl T.g_is_name T.F_is_name.kp T.b_is_name .nil pass0 (pa_cons (pv 2) pa_nil)) (pe_one (pe_call (ok_is_value T) (hr.mono (by decide)) rfl T.g_is_value T.F_is_value.kp T.b_is_value .nil pass0 (pa_cons (pv 3) pa_nil)))))) pss_nil)
      (pss_one (ps_ret (pe_and (pe_cmpR op_in_seq (pv 1) (pe_tup (pa_cons pe_str (pa_cons pe_str pa_nil))) rfl) (pe_and (pe_call (ok_is_number T) (hr.mono (by decide)) rfl T.g_is_number T.F_is_number.kp T.b_is_number .nil pass0 (pa_cons (pv 2) pa_nil)) (pe_one (pe_call (ok_is_value T) (hr.mono (by decide)) rfl T.g_is_value T.F_is_value.kp T.b_is_value .nil pass0 (pa_cons (pv 3) pa_nil))))))))))), ?_⟩
    have k : Kind K H (.ref a) "tuple" := .tup hs
    refine ⟨_, rfl, _, _, _, _, _, rfl, .ty _, k.ty, k.kit, _, rfl, ifF rfl ?_⟩
    refine ⟨_, rfl, _, _, rfl, .inr ⟨_, hs, rfl⟩, by show 2 ≤ sizeLine; decide, fun tp htp => ?_⟩
    have s1 : Same H (upd H tp (.tup [.int 2, .int 3])) := Same.new htp
    have hs1 := s1.tup hs
    have two : ∀ (n : Nat), n ≤ 9999 → btw (.int (n : Nat)) 0 9999 = true := fun n h => btw_t (by omega) (by omega)
    cases i with
    | again n =>
      refine ⟨tp, _, rfl, .inr (.inl (.inl upd_same)), rfl, rfl, _, rfl, ifF rfl ?_⟩
      refine ⟨_, rfl, _, _, rfl, .inr ⟨_, hs1, rfl⟩, rfl, _, rfl, iteT ?_⟩
      refine ⟨_, rfl, _, _, _, _, rfl, rfl, hs1, rfl, by show 2 ≤ sizeLine; decide, fun tq htq => ⟨tq, _, rfl, .inr (.inl (.inl upd_same)), rfl, rfl, _, rfl, ifT (by decide) ?_⟩⟩
      have s2 := s1.trans (Same.new (o := .tup [.str "again", .str "limit"]) htq)
      exact ⟨_, rfl, _, _, _, _, rfl, rfl, s2.tup hs, rfl, .int n, "int", rfl, .int _, Q_bl (q _ s2) (two n ok).symm⟩
    | limit n =>
      refine ⟨tp, _, rfl, .inr (.inl (.inl upd_same)), rfl, rfl, _, rfl, ifF rfl ?_⟩
      refine ⟨_, rfl, _, _, rfl, .inr ⟨_, hs1, rfl⟩, rfl, _, rfl, iteT ?_⟩
      refine ⟨_, rfl, _, _, _, _, rfl, rfl, hs1, rfl, by show 2 ≤ sizeLine; decide, fun tq htq => ⟨tq, _, rfl, .inr (.inl (.inl upd_same)), rfl, rfl, _, rfl, ifT (by decide) ?_⟩⟩
      have s2 := s1.trans (Same.new (o := .tup [.str "again", .str "limit"]) htq)
      exact ⟨_, rfl, _, _, _, _, rfl, rfl, s2.tup hs, rfl, .int n, "int", rfl, .int _, Q_bl (q _ s2) (two n ok).symm⟩
    | fixed n x =>
      refine ⟨tp, _, rfl, .inr (.inl (.inl upd_same)), rfl, rfl, _, rfl, ifF rfl ?_⟩
      refine ⟨_, rfl, _, _, rfl, .inr ⟨_, hs1, rfl⟩, rfl, _, rfl, ifF (by show decide (V.int 3 = V.int 2) = false; decide) ?_⟩
      refine ⟨_, rfl, a, _, rfl, hs1, rfl, ⟨_, _, rfl, ⟨_, _, rfl, ⟨_, _, rfl, rfl, ?_⟩⟩⟩⟩
      refine ⟨_, rfl, rfl, _, rfl, ifF (by decide) ?_⟩
      refine ⟨_, rfl, by show 2 ≤ sizeLine; decide, fun tq htq => ⟨tq, _, rfl, .inr (.inl (.inl upd_same)), rfl, rfl, _, rfl, ifT (by decide) ?_⟩⟩
      have s2 := s1.trans (Same.new (o := .tup [.str "fixed", .str "entry"]) htq)
      refine ⟨_, rfl, .int n, "int", rfl, .int _, _, rfl, ifT (two n ok.1) ?_⟩
      refine ⟨_, rfl, .str x, "str", rfl, .str _, fun y e => ?_, fun H3 s3 => Q_bl (q _ (s2.trans s3)) ok.2.symm⟩
      cases e
      have := txt_len ok.2
      omega
    | entry n x =>
      refine ⟨tp, _, rfl, .inr (.inl (.inl upd_same)), rfl, rfl, _, rfl, ifF rfl ?_⟩
      refine ⟨_, rfl, _, _, rfl, .inr ⟨_, hs1, rfl⟩, rfl, _, rfl, ifF (by show decide (V.int 3 = V.int 2) = false; decide) ?_⟩
      refine ⟨_, rfl, a, _, rfl, hs1, rfl, ⟨_, _, rfl, ⟨_, _, rfl, ⟨_, _, rfl, rfl, ?_⟩⟩⟩⟩
      refine ⟨_, rfl, rfl, _, rfl, ifF (by decide) ?_⟩
      refine ⟨_, rfl, by show 2 ≤ sizeLine; decide, fun tq htq => ⟨tq, _, rfl, .inr (.inl (.inl upd_same)), rfl, rfl, _, rfl, ifT (by decide) ?_⟩⟩
      have s2 := s1.trans (Same.new (o := .tup [.str "fixed", .str "entry"]) htq)
      refine ⟨_, rfl, .int n, "int", rfl, .int _, _, rfl, ifT (two n ok.1) ?_⟩
      refine ⟨_, rfl, .str x, "str", rfl, .str _, fun y e => ?_, fun H3 s3 => Q_bl (q _ (s2.trans s3)) ok.2.symm⟩
      cases e
      have := txt_len ok.2
      omega
    | new y x =>
      refine ⟨tp, _, rfl, .inr (.inl (.inl upd_same)), rfl, rfl, _, rfl, ifF rfl ?_⟩
      refine ⟨_, rfl, _, _, rfl, .inr ⟨_, hs1, rfl⟩, rfl, _, rfl, ifF (by show decide (V.int 3 = V.int 2) = false; decide) ?_⟩
      refine ⟨_, rfl, a, _, rfl, hs1, rfl, ⟨_, _, rfl, ⟨_, _, rfl, ⟨_, _, rfl, rfl, ?_⟩⟩⟩⟩
      refine ⟨_, rfl, rfl, _, rfl, ifT (by decide) ?_⟩
      refine ⟨_, rfl, .str y, "str", rfl, .str _, fun z e => ?_, fun H3 s3 => ⟨_, rfl, ifT ok.1 ?_⟩⟩
      · cases e
        have := txt_len20 ok.1
        omega
      refine ⟨_, rfl, .str x, "str", rfl, .str _, fun z e => ?_, fun H4 s4 => Q_bl (q _ ((s1.trans s3).trans s4)) ok.2.symm⟩
      cases e
      have := txt_len ok.2
      omega
theorem ok_source_octets (T : Txt K mg) : FnOk P w K mg base CX0 5 T.f_source_octets T.d_source_octets ["kind", "source"] sp_source_octets := by
  refine T.F_source_octets.ok sc_source_octets (fun vs H Q E h => ?_) (fun cdv A outer s H vs Q E hr h => ?_)
  · obtain ⟨c, v, os, rfl, _⟩ := h
    rfl
  · obtain ⟨c, v, os, rfl, h, q⟩ := h
    refine ⟨_, (pss_cons (ps_if (pt_cmpR op_eq (pv 0) pe_str (nomark _)) (pss_one (ps_ret (pe_call (ok_number_octets T) (hr.mono (by decide)) rfl T.g_number_octets T.F_number_octets.kp T.b_number_octets .nil pass0 (pa_cons (pv 1) (pa_cons pe_int (pa_cons pe_int pa_nil)))))) pss_nil)
      (pss_cons (ps_if (pt_cmpR op_eq (pv 0) pe_str (nomark _)) (pss_one (ps_ret (pe_call (ok_number_octets T) (hr.mono (by decide)) rfl T.g_number_octets T.F_number_octets.kp T.b_number_octets .nil pass0 (pa_cons (pv 1) (pa_cons pe_int (pa_cons pe_int pa_nil)))))) pss_nil)
      (pss_one (ps_ret (pe_call (ok_string_octets T) (hr.mono (by decide)) rfl T.g_string_octets T.F_string_octets.kp T.b_string_octets .nil pass0 (pa_cons (pv 1) (pa_cons pe_int (pa_cons pe_int pa_nil)))))))), ?_⟩
    rcases h with ⟨n, rfl, rfl, hn, rfl⟩ | ⟨n, rfl, rfl, hn, rfl⟩ | ⟨y, rfl, rfl, hy, rfl⟩
    · exact ⟨_, rfl, rfl, _, rfl, iteT ⟨_, rfl, n, 6, 192, rfl, hn, ⟨by decide, by decide, by decide, by decide +kernel⟩, q⟩⟩
    · refine ⟨_, rfl, rfl, _, rfl, ifF (by decide) ⟨_, rfl, rfl, _, rfl, ifT (by decide) ?_⟩⟩
      exact ⟨_, rfl, n, 6, 128, rfl, hn, ⟨by decide, by decide, by decide, by decide +kernel⟩, q⟩
    · refine ⟨_, rfl, rfl, _, rfl, ifF (by decide) ⟨_, rfl, rfl, _, rfl, ifF (by decide) ?_⟩⟩
      exact ⟨_, rfl, y, 5, 64, rfl, txt_20 hy, ⟨by decide, by decide, by decide, by decide +kernel⟩, q⟩

theorem ok_write_instruction (T : Txt K mg) : FnOk P w K mg base CX0 6 T.f_write_instruction T.d_write_instruction ["instruction"] (sp_write_ins K) := by
  refine T.F_write_instruction.ok sc_write_instruction (fun vs H Q E h => ?_) (fun cdv A outer s H vs Q E hr h => ?_)
  · obtain ⟨v, i, rfl, _⟩ := h
    rfl
  · obtain ⟨v, i, rfl, ⟨a, rfl, hs⟩, ok, q⟩ := h
    refine ⟨_, (pss_cons (ps_if (pt_not (pt_val (pe_call (ok_is_instruction T) (hr.mono (by decide)) rfl T.g_is_instruction T.F_is_instruction.kp T.b_is_instruction .nil pass0 (pa_cons (pv 0) pa_nil)))) (pss_one ps_never) pss_nil)
      (pss_cons (ps_set (i := 1) sc_write_instruction.nd rfl (Or.inl rfl) (pe_ix ix_tup (pv 0) pe_int (fun _ _ => rfl)))
      (pss_cons (ps_if (pt_cmpR op_eq (pv 1) pe_str (nomark _)) (pss_one (ps_ret (pe_call (ok_number_octets T) (hr.mono (by decide)) rfl T.g_number_octets T.F_number_octets.kp T.b_number_octets .nil pass0 (pa_cons (pe_ix ix_tup (pv 0) pe_int (fun _ _ => rfl)) (pa_cons pe_int (pa_cons pe_int pa_nil)))))) pss_nil)
      (pss_cons (ps_if (pt_cmpR op_eq (pv 1) pe_str (nomark _)) (pss_one (ps_ret (pe_call (ok_number_octets T) (hr.mono (by decide)) rfl T.g_number_octets T.F_number_octets.kp T.b_number_octets .nil pass0 (pa_cons (pe_ix ix_tup (pv 0) pe_int (fun _ _ => rfl)) (pa_cons pe_int (pa_cons pe_int pa_nil)))))) pss_nil)
      (pss_one (ps_ret (pe_op op_cat (pe_call (ok_source_octets T) (hr.mono (by decide)) rfl T.g_source_octets T.F_source_octets.kp T.b_source_octets .nil pass0 (pa_cons (pv 1) (pa_cons (pe_ix ix_tup (pv 0) pe_int (fun _ _ => rfl)) pa_nil))) (pe_call (ok_value_octets T) (hr.mono (by decide)) rfl T.g_value_octets T.F_value_octets.kp T.b_value_octets .nil pass0 (pa_cons (pe_ix ix_tup (pv 0) pe_int (fun _ _ => rfl)) pa_nil))))))))), ?_⟩
    refine ⟨_, rfl, _, i, rfl, ⟨a, rfl, hs⟩, ok, fun H1 s1 => ⟨_, rfl, ifF rfl ?_⟩⟩
    have hs1 := s1.tup hs
    cases i with
    | again n =>
      refine ⟨_, rfl, _, _, _, _, rfl, rfl, hs1, rfl, ?_⟩
      refine ⟨_, rfl, rfl, _, rfl, ifT (by decide) ?_⟩
      exact ⟨_, rfl, _, _, _, _, rfl, rfl, hs1, rfl, n, 5, 0, rfl, ok, mark0 (by decide) (by decide), q.pre s1⟩
    | limit n =>
      refine ⟨_, rfl, _, _, _, _, rfl, rfl, hs1, rfl, ?_⟩
      refine ⟨_, rfl, rfl, _, rfl, ifF (by decide) ⟨_, rfl, rfl, _, rfl, ifT (by decide) ?_⟩⟩
      exact ⟨_, rfl, _, _, _, _, rfl, rfl, hs1, rfl, n, 5, 32, rfl, ok, ⟨by decide, by decide, by decide, by decide +kernel⟩, q.pre s1⟩
    | fixed n x =>
      refine ⟨_, rfl, _, _, _, _, rfl, rfl, hs1, rfl, ?_⟩
      refine ⟨_, rfl, rfl, _, rfl, ifF (by decide) ⟨_, rfl, rfl, _, rfl, ifF (by decide) ?_⟩⟩
      refine ⟨_, rfl, _, rfl, _, _, _, _, rfl, rfl, hs1, rfl, "fixed", .int n, _, rfl, .inl ⟨n, rfl, rfl, ok.1, rfl⟩, fun p H2 hp s2 g2 => ?_⟩
      refine ⟨_, rfl, _, _, _, _, rfl, rfl, s2.tup hs1, rfl, x, rfl, ok.2, fun p3 H3 hp3 s3 g3 => ?_⟩
      have l1 := numOct_len n 6 192
      have l2 := strOct_len (b := 7) (m := 0) (txt_len ok.2)
      have l3 := ok.1
      exact cat_go q ((s1.trans s2).trans s3) (s3 _ _ g2) g3 (by omega)
    | entry n x =>
      refine ⟨_, rfl, _, _, _, _, rfl, rfl, hs1, rfl, ?_⟩
      refine ⟨_, rfl, rfl, _, rfl, ifF (by decide) ⟨_, rfl, rfl, _, rfl, ifF (by decide) ?_⟩⟩
      refine ⟨_, rfl, _, rfl, _, _, _, _, rfl, rfl, hs1, rfl, "entry", .int n, _, rfl, .inr (.inl ⟨n, rfl, rfl, ok.1, rfl⟩), fun p H2 hp s2 g2 => ?_⟩
      refine ⟨_, rfl, _, _, _, _, rfl, rfl, s2.tup hs1, rfl, x, rfl, ok.2, fun p3 H3 hp3 s3 g3 => ?_⟩
      have l1 := numOct_len n 6 128
      have l2 := strOct_len (b := 7) (m := 0) (txt_len ok.2)
      have l3 := ok.1
      exact cat_go q ((s1.trans s2).trans s3) (s3 _ _ g2) g3 (by omega)
    | new y x =>
      refine ⟨_, rfl, _, _, _, _, rfl, rfl, hs1, rfl, ?_⟩
      refine ⟨_, rfl, rfl, _, rfl, ifF (by decide) ⟨_, rfl, rfl, _, rfl, ifF (by decide) ?_⟩⟩
      refine ⟨_, rfl, _, rfl, _, _, _, _, rfl, rfl, hs1, rfl, "new", .str y, _, rfl, .inr (.inr ⟨y, rfl, rfl, ok.1, rfl⟩), fun p H2 hp s2 g2 => ?_⟩
      refine ⟨_, rfl, _, _, _, _, rfl, rfl, s2.tup hs1, rfl, x, rfl, ok.2, fun p3 H3 hp3 s3 g3 => ?_⟩
      have l1 := strOct_len (b := 5) (m := 64) (txt_len (txt_20 ok.1))
      have l2 := strOct_len (b := 7) (m := 0) (txt_len ok.2)
      exact cat_go q ((s1.trans s2).trans s3) (s3 _ _ g2) g3 (by omega)
theorem ok_is_answer (T : Txt K mg) : FnOk P w K mg base CX0 3 T.f_is_answer T.d_is_answer ["thing"] (sp_is_ans K) := by
  refine T.F_is_answer.ok sc_is_answer (fun vs H Q E h => ?_) (fun cdv A outer s H vs Q E hr h => ?_)
  · obtain ⟨v, i, rfl, _⟩ := h
    rfl
  · obtain ⟨v, i, rfl, ⟨a, rfl, hs⟩, ok, q⟩ := h
    refine ⟨_, (pss_cons (ps_if (PW.pt (pw_or (pt_not (pt_val (pe_callB call_isi rfl T.z_isinstance boot_isinstance (pa_cons (pv 0) (pa_cons (pe_bltn (v := .ty "tuple") rfl T.z_tuple boot_tuple rfl) pa_nil))))) (pw_or1 (pt_cmpR op_ne (pe_callB call_len rfl T.z_len boot_len (pa_cons (pv 0) pa_nil)) pe_int (nomark _))))) (pss_one (ps_ret pe_bl)) pss_nil)
      (pss_cons (ps_asg (pv 0) (pg_tup rfl (pgs_cons (pg_name (i := 1) sc_is_answer.nd rfl (Or.inl rfl)) (pgs_cons (pg_name (i := 2) sc_is_answer.nd rfl (Or.inl rfl)) pgs_nil))))
      (pss_cons (ps_if (pt_cmpR op_eq (pv 1) pe_str (nomark _)) (pss_one (ps_ret (pe_call (ok_is_between T) (hr.mono (by decide)) rfl T.g_is_between T.F_is_between.kp T.b_is_between .nil pass0 (pa_cons (pv 2) (pa_cons pe_int (pa_cons (pe_glob (v := .int 9999) rfl T.g_NUMBER_MOST ⟨_, rfl⟩) pa_nil)))))) pss_nil)
      (pss_one (ps_ret (pe_and (pe_cmpR op_in_seq (pv 1) (pe_tup (pa_cons pe_str (pa_cons pe_str pa_nil))) rfl) (pe_one (pe_call (ok_is_stream T) (hr.mono (by decide)) rfl T.g_is_stream T.F_is_stream.kp T.b_is_stream .nil pass0 (pa_cons (pv 2) pa_nil))))))))), ?_⟩
    have k : Kind K H (.ref a) "tuple" := .tup hs
    refine ⟨_, rfl, _, _, _, _, _, rfl, .ty _, k.ty, k.kit, _, rfl, ifF rfl ?_⟩
    refine ⟨_, rfl, _, _, rfl, .inr ⟨_, hs, rfl⟩, rfl, _, rfl, ?_⟩
    have hl : i.vs.length = 2 := by cases i <;> rfl
    rw [hl]
    refine ifF (by decide) ?_
    cases i with
    | received n =>
      refine ⟨_, rfl, a, _, rfl, hs, rfl, ⟨_, _, rfl, ⟨_, _, rfl, rfl, ?_⟩⟩⟩
      refine ⟨_, rfl, rfl, _, rfl, ifT (by decide) ?_⟩
      exact ⟨_, rfl, .int n, "int", 1, 9999, rfl, .int _, Q_bl (q _ (Same.refl _)) (btw_t (by have := ok.1; omega) (by have := ok.2; omega)).symm⟩
    | done n =>
      refine ⟨_, rfl, a, _, rfl, hs, rfl, ⟨_, _, rfl, ⟨_, _, rfl, rfl, ?_⟩⟩⟩
      refine ⟨_, rfl, rfl, _, rfl, ifF (by decide) ?_⟩
      refine ⟨_, rfl, by show 2 ≤ sizeLine; decide, fun tq htq => ⟨tq, _, rfl, .inr (.inl (.inl upd_same)), rfl, rfl, _, rfl, ifT (by decide) ?_⟩⟩
      exact ⟨_, rfl, .int n, "int", rfl, .int _, Q_bl (q _ (Same.new htq)) (btw_t (by omega) (by have h : n ≤ 20 := ok; omega)).symm⟩
    | cancelled n =>
      refine ⟨_, rfl, a, _, rfl, hs, rfl, ⟨_, _, rfl, ⟨_, _, rfl, rfl, ?_⟩⟩⟩
      refine ⟨_, rfl, rfl, _, rfl, ifF (by decide) ?_⟩
      refine ⟨_, rfl, by show 2 ≤ sizeLine; decide, fun tq htq => ⟨tq, _, rfl, .inr (.inl (.inl upd_same)), rfl, rfl, _, rfl, ifT (by decide) ?_⟩⟩
      exact ⟨_, rfl, .int n, "int", rfl, .int _, Q_bl (q _ (Same.new htq)) (btw_t (by omega) (by have h : n ≤ 20 := ok; omega)).symm⟩
theorem ok_write_answer (T : Txt K mg) : FnOk P w K mg base CX0 4 T.f_write_answer T.d_write_answer ["answer"] (sp_write_ans K) := by
  refine T.F_write_answer.ok sc_write_answer (fun vs H Q E h => ?_) (fun cdv A outer s H vs Q E hr h => ?_)
  · obtain ⟨v, i, rfl, _⟩ := h
    rfl
  · obtain ⟨v, i, rfl, ⟨a, rfl, hs⟩, ok, q⟩ := h
    refine ⟨_, (pss_cons (ps_if (pt_not (pt_val (pe_call (ok_is_answer T) (hr.mono (by decide)) rfl T.g_is_answer T.F_is_answer.kp T.b_is_answer .nil pass0 (pa_cons (pv 0) pa_nil)))) (pss_one ps_never) pss_nil)
      (pss_cons (ps_asg (pv 0) (pg_tup rfl (pgs_cons (pg_name (i := 1) sc_write_answer.nd rfl (Or.inl rfl)) (pgs_cons (pg_name (i := 2) sc_write_answer.nd rfl (Or.inl rfl)) pgs_nil))))
      (pss_cons (ps_if (pt_cmpR op_eq (pv 1) pe_str (nomark _)) (pss_one (ps_ret (pe_call (ok_number_octets T) (hr.mono (by decide)) rfl T.g_number_octets T.F_number_octets.kp T.b_number_octets .nil pass0 (pa_cons (pv 2) (pa_cons pe_int (pa_cons pe_int pa_nil)))))) pss_nil)
      (pss_cons (ps_if (pt_cmpR op_eq (pv 1) pe_str (nomark _)) (pss_one (ps_ret (pe_call (ok_number_octets T) (hr.mono (by decide)) rfl T.g_number_octets T.F_number_octets.kp T.b_number_octets .nil pass0 (pa_cons (pv 2) (pa_cons pe_int (pa_cons pe_int pa_nil)))))) pss_nil)
      (pss_one (ps_ret (pe_call (ok_number_octets T) (hr.mono (by decide)) rfl T.g_number_octets T.F_number_octets.kp T.b_number_octets .nil pass0 (pa_cons (pv 2) (pa_cons pe_int (pa_cons pe_int pa_nil)))))))))), ?_⟩
    refine ⟨_, rfl, _, i, rfl, ⟨a, rfl, hs⟩, ok, fun H1 s1 => ⟨_, rfl, ifF rfl ?_⟩⟩
    have hs1 := s1.tup hs
    cases i with
    | done n =>
      have h : n ≤ 20 := ok
      refine ⟨_, rfl, a, _, rfl, hs1, rfl, ⟨_, _, rfl, ⟨_, _, rfl, rfl, ?_⟩⟩⟩
      refine ⟨_, rfl, rfl, _, rfl, ifT (by decide) ?_⟩
      exact ⟨_, rfl, n, 7, 128, rfl, by omega, ⟨by decide, by decide, by decide, by decide +kernel⟩, q.pre s1⟩
    | cancelled n =>
      have h : n ≤ 20 := ok
      refine ⟨_, rfl, a, _, rfl, hs1, rfl, ⟨_, _, rfl, ⟨_, _, rfl, rfl, ?_⟩⟩⟩
      refine ⟨_, rfl, rfl, _, rfl, ifF (by decide) ⟨_, rfl, rfl, _, rfl, ifT (by decide) ?_⟩⟩
      exact ⟨_, rfl, n, 6, 64, rfl, by omega, ⟨by decide, by decide, by decide, by decide +kernel⟩, q.pre s1⟩
    | received n =>
      have h := ok.2
      refine ⟨_, rfl, a, _, rfl, hs1, rfl, ⟨_, _, rfl, ⟨_, _, rfl, rfl, ?_⟩⟩⟩
      refine ⟨_, rfl, rfl, _, rfl, ifF (by decide) ⟨_, rfl, rfl, _, rfl, ifF (by decide) ?_⟩⟩
      exact ⟨_, rfl, n, 6, 0, rfl, h, mark0 (by decide) (by decide), q.pre s1⟩
theorem ok_is_line (T : Txt K mg) : FnOk P w K mg base CX0 3 T.f_is_line T.d_is_line ["thing", "required"] (sp_is_line K) := by
  refine T.F_is_line.ok sc_is_line (fun vs H Q E h => ?_) (fun cdv A outer s H vs Q E hr h => ?_)
  · obtain ⟨v, l, r, rfl, _⟩ := h
    rfl
  · obtain ⟨v, l, r, rfl, ⟨a, rfl, hs⟩, ok, q⟩ := h
    refine ⟨_, (pss_cons (ps_if (PW.pt (pw_or (pt_not (pt_val (pe_callB call_isi rfl T.z_isinstance boot_isinstance (pa_cons (pv 0) (pa_cons (pe_bltn (v := .ty "tuple") rfl T.z_tuple boot_tuple rfl) pa_nil))))) (pw_or1 (pt_cmpR op_notIn_seq (pe_callB call_len rfl T.z_len boot_len (pa_cons (pv 0) pa_nil)) (pe_tup (pa_cons pe_int (pa_cons pe_int pa_nil))) rfl)))) (pss_one (ps_ret pe_bl)) pss_nil)
      (pss_cons (ps_if (PW.pt (pw_and (pt_cmpR op_eq (pe_callB call_len rfl T.z_len boot_len (pa_cons (pv 0) pa_nil)) pe_int (nomark _)) (pw_and1 (pt_not (pt_val (pe_call (ok_is_value T) (hr.mono (by decide)) rfl T.g_is_value T.F_is_value.kp T.b_is_value .nil pass0 (pa_cons (pe_ix ix_tup (pv 0) pe_int (fun _ _ => rfl)) pa_nil))))))) (pss_one (ps_ret pe_bl)) pss_nil)
      (pss_cons (ps_if (pt_cmpR op_eq (pe_ix ix_tup (pv 0) pe_int (fun _ _ => rfl)) pe_str (nomark _)) (pss_one (ps_ret (pe_call (ok_is_number T) (hr.mono (by decide)) rfl T.g_is_number T.F_is_number.kp T.b_is_number .nil pass0 (pa_cons (pe_ix ix_tup (pv 0) pe_int (fun _ _ => rfl)) pa_nil)))) pss_nil)
      (pss_cons (ps_if (pt_cmpR op_eq (pe_ix ix_tup (pv 0) pe_int (fun _ _ => rfl)) pe_str (nomark _)) (pss_one (ps_ret (pe_call (ok_is_between T) (hr.mono (by decide)) rfl T.g_is_between T.F_is_between.kp T.b_is_between .nil pass0 (pa_cons (pe_ix ix_tup (pv 0) pe_int (fun _ _ => rfl)) (pa_cons pe_int (pa_cons (pe_op op_sub (pv 1) pe_int) pa_nil)))))) pss_nil)
      (pss_one (ps_ret (pe_and (pe_cmpR op_eq (pe_ix ix_tup (pv 0) pe_int (fun _ _ => rfl)) pe_str (nomark _)) (pe_and (pe_cmpR op_eq (pe_callB call_len rfl T.z_len boot_len (pa_cons (pv 0) pa_nil)) pe_int (nomark _)) (pe_one (pe_call (ok_is_name T) (hr.mono (by decide)) rfl T.g_is_name T.F_is_name.kp T.b_is_name .nil pass0 (pa_cons (pe_ix ix_tup (pv 0) pe_int (fun _ _ => rfl)) pa_nil))))))))))), ?_⟩
    have k : Kind K H (.ref a) "tuple" := .tup hs
    refine ⟨_, rfl, _, _, _, _, _, rfl, .ty _, k.ty, k.kit, _, rfl, ifF rfl ?_⟩
    refine ⟨_, rfl, _, _, rfl, .inr ⟨_, hs, rfl⟩, by show 2 ≤ sizeLine; decide, fun tp htp => ?_⟩
    have s1 : Same H (upd H tp (.tup [.int 2, .int 3])) := Same.new htp
    have hs1 := s1.tup hs
    have hx40 : ∀ x : Str, txt (.str x) 0 40 = true → x.length ≤ 100000 := fun x h => by have := txt_len h; omega
    cases l with
    | fix1 n =>
      refine ⟨tp, _, rfl, .inr (.inl (.inl upd_same)), rfl, rfl, _, rfl, ifF rfl ?_⟩
      refine ⟨_, rfl, _, _, rfl, .inr ⟨_, hs1, rfl⟩, rfl, _, rfl, ifF (by show decide (V.int 2 = V.int 3) = false; decide) (ifF rfl ?_)⟩
      refine ⟨_, rfl, _, _, _, _, rfl, rfl, hs1, rfl, rfl, _, rfl, ifT (by decide) ?_⟩
      exact ⟨_, rfl, _, _, _, _, rfl, rfl, hs1, rfl, .int n, "int", rfl, .int _, Q_bl (q _ s1) (btw_t (by omega) (by have h : n ≤ 9999 := ok; omega)).symm⟩
    | fix2 n x =>
      refine ⟨tp, _, rfl, .inr (.inl (.inl upd_same)), rfl, rfl, _, rfl, ifF rfl ?_⟩
      refine ⟨_, rfl, _, _, rfl, .inr ⟨_, hs1, rfl⟩, rfl, _, rfl, ifT (by show decide (V.int 3 = V.int 3) = true; decide) ?_⟩
      refine ⟨_, rfl, _, _, _, _, rfl, rfl, hs1, rfl, .str x, "str", rfl, .str _, fun y e => by cases e; exact hx40 x ok.2, fun H2 s2 => ⟨_, rfl, ?_⟩⟩
      rw [ok.2]
      refine ifF rfl ?_
      have hs2 := s2.tup hs1
      refine ⟨_, rfl, _, _, _, _, rfl, rfl, hs2, rfl, rfl, _, rfl, ifT (by decide) ?_⟩
      exact ⟨_, rfl, _, _, _, _, rfl, rfl, hs2, rfl, .int n, "int", rfl, .int _, Q_bl (q _ (s1.trans s2)) (btw_t (by omega) (by have h := ok.1; omega)).symm⟩
    | ent1 n =>
      refine ⟨tp, _, rfl, .inr (.inl (.inl upd_same)), rfl, rfl, _, rfl, ifF rfl ?_⟩
      refine ⟨_, rfl, _, _, rfl, .inr ⟨_, hs1, rfl⟩, rfl, _, rfl, ifF (by show decide (V.int 2 = V.int 3) = false; decide) (ifF rfl ?_)⟩
      refine ⟨_, rfl, _, _, _, _, rfl, rfl, hs1, rfl, rfl, _, rfl, ifF (by decide) ?_⟩
      refine ⟨_, rfl, _, _, _, _, rfl, rfl, hs1, rfl, rfl, _, rfl, ifT (by decide) ?_⟩
      exact ⟨_, rfl, _, _, _, _, rfl, rfl, hs1, rfl, _, rfl, _, _, rfl, rfl, .int n, "int", 0, _, rfl, .int _, Q_bl (q _ s1) (btw_t (by omega) (by have h : n < r := ok; omega)).symm⟩
    | ent2 n x =>
      refine ⟨tp, _, rfl, .inr (.inl (.inl upd_same)), rfl, rfl, _, rfl, ifF rfl ?_⟩
      refine ⟨_, rfl, _, _, rfl, .inr ⟨_, hs1, rfl⟩, rfl, _, rfl, ifT (by show decide (V.int 3 = V.int 3) = true; decide) ?_⟩
      refine ⟨_, rfl, _, _, _, _, rfl, rfl, hs1, rfl, .str x, "str", rfl, .str _, fun y e => by cases e; exact hx40 x ok.2, fun H2 s2 => ⟨_, rfl, ?_⟩⟩
      rw [ok.2]
      refine ifF rfl ?_
      have hs2 := s2.tup hs1
      refine ⟨_, rfl, _, _, _, _, rfl, rfl, hs2, rfl, rfl, _, rfl, ifF (by decide) ?_⟩
      refine ⟨_, rfl, _, _, _, _, rfl, rfl, hs2, rfl, rfl, _, rfl, ifT (by decide) ?_⟩
      exact ⟨_, rfl, _, _, _, _, rfl, rfl, hs2, rfl, _, rfl, _, _, rfl, rfl, .int n, "int", 0, _, rfl, .int _, Q_bl (q _ (s1.trans s2)) (btw_t (by omega) (by have h := ok.1; omega)).symm⟩
    | out y x =>
      refine ⟨tp, _, rfl, .inr (.inl (.inl upd_same)), rfl, rfl, _, rfl, ifF rfl ?_⟩
      refine ⟨_, rfl, _, _, rfl, .inr ⟨_, hs1, rfl⟩, rfl, _, rfl, ifT (by show decide (V.int 3 = V.int 3) = true; decide) ?_⟩
      refine ⟨_, rfl, _, _, _, _, rfl, rfl, hs1, rfl, .str x, "str", rfl, .str _, fun y e => by cases e; exact hx40 x ok.2, fun H2 s2 => ⟨_, rfl, ?_⟩⟩
      rw [ok.2]
      refine ifF rfl ?_
      have hs2 := s2.tup hs1
      refine ⟨_, rfl, _, _, _, _, rfl, rfl, hs2, rfl, rfl, _, rfl, ifF (by decide) ?_⟩
      refine ⟨_, rfl, _, _, _, _, rfl, rfl, hs2, rfl, rfl, _, rfl, ifF (by decide) ?_⟩
      refine ⟨_, rfl, _, _, _, _, rfl, rfl, hs2, rfl, rfl, _, rfl, ifT (by decide) ?_⟩
      refine ⟨_, rfl, _, _, rfl, .inr ⟨_, hs2, rfl⟩, rfl, _, rfl, ifT (by show decide (V.int 3 = V.int 3) = true; decide) ?_⟩
      exact ⟨_, rfl, _, _, _, _, rfl, rfl, hs2, rfl, .str y, "str", rfl, .str _, fun z e => by cases e; exact hx40 y (txt_20 ok.1), fun H3 s3 => Q_bl (q _ ((s1.trans s2).trans s3)) ok.1.symm⟩
theorem ok_is_block (T : Txt K mg) : FnOk P w K mg base CX0 4 T.f_is_block T.d_is_block ["thing"] (sp_is_block K) := by
  refine T.F_is_block.ok sc_is_block (fun vs H Q E h => ?_) (fun cdv A outer s H vs Q E hr h => ?_)
  · obtain ⟨v, b, rfl, _⟩ := h
    rfl
  · obtain ⟨v, b, rfl, ⟨a, t, xs, rfl, hs, ht, hl⟩, ok, q⟩ := h
    refine ⟨_, (pss_cons (ps_if (PW.pt (pw_or (pt_not (pt_val (pe_callB call_isi rfl T.z_isinstance boot_isinstance (pa_cons (pv 0) (pa_cons (pe_bltn (v := .ty "tuple") rfl T.z_tuple boot_tuple rfl) pa_nil))))) (pw_or1 (pt_cmpR op_ne (pe_callB call_len rfl T.z_len boot_len (pa_cons (pv 0) pa_nil)) pe_int (nomark _))))) (pss_one (ps_ret pe_bl)) pss_nil)
      (pss_cons (ps_asg (pv 0) (pg_tup rfl (pgs_cons (pg_name (i := 1) sc_is_block.nd rfl (Or.inr rfl)) (pgs_cons (pg_name (i := 2) sc_is_block.nd rfl (Or.inl rfl)) (pgs_cons (pg_name (i := 3) sc_is_block.nd rfl (Or.inl rfl)) pgs_nil)))))
      (pss_cons (ps_if (PW.pt (pw_or (pt_not (pt_val (pe_call (ok_is_number T) (hr.mono (by decide)) rfl T.g_is_number T.F_is_number.kp T.b_is_number .nil pass0 (pa_cons (pv 1) pa_nil)))) (pw_or1 (pt_not (pt_val (pe_call (ok_is_between T) (hr.mono (by decide)) rfl T.g_is_between T.F_is_between.kp T.b_is_between .nil pass0 (pa_cons (pv 2) (pa_cons pe_int (pa_cons (pv 1) pa_nil))))))))) (pss_one (ps_ret pe_bl)) pss_nil)
      (pss_cons (ps_if (PW.pt (pw_or (pt_not (pt_val (pe_callB call_isi rfl T.z_isinstance boot_isinstance (pa_cons (pv 3) (pa_cons (pe_bltn (v := .ty "tuple") rfl T.z_tuple boot_tuple rfl) pa_nil))))) (pw_or1 (pt_cmpR op_gt (pe_callB call_len rfl T.z_len boot_len (pa_cons (pv 3) pa_nil)) (pe_glob (v := .int 16) rfl T.g_LINES_MOST ⟨_, rfl⟩) (nomark _))))) (pss_one (ps_ret pe_bl)) pss_nil)
      (pss_one (ps_ret (pe_callB (cr_all rfl) rfl T.z_all boot_all (pa_cons (pe_lc (own := [("line", 4)]) (g := (gName 4)) (tt := tYes)  rfl sc_is_block.nd (pi_tup (pv 3)) (blkOk_by (own := [("line", 4)]) (N := ["thing", "required", "base", "lines", "line"]) (sc := defScope s_is_block) (by decide +kernel)) (fun _ _ _ _ _ => (pg_name (i := 4) sc_is_block.nd rfl (Or.inl rfl))) (fun _ _ _ _ _ => pts_nil) (fun _ _ _ _ _ => (pe_call (ok_is_line T) (hr.mono (by decide)) rfl T.g_is_line T.F_is_line.kp T.b_is_line .nil pass0 (pa_cons (pv 4) (pa_cons (pv 1) pa_nil))))) pa_nil)))))))), ?_⟩
    have k : Kind K H (.ref a) "tuple" := .tup hs
    have kt : Kind K H (.ref t) "tuple" := .tup ht
    have o1 := ok.req_
    have o2 := ok.base_
    have o3 := ok.len_
    have hll := hl.len
    refine ⟨_, rfl, _, _, _, _, _, rfl, .ty _, k.ty, k.kit, _, rfl, ifF rfl ?_⟩
    refine ⟨_, rfl, _, _, rfl, .inr ⟨_, hs, rfl⟩, rfl, _, rfl, ifF (by show (!decide (V.int 3 = V.int 3)) = false; decide) ?_⟩
    refine ⟨_, rfl, a, _, rfl, hs, rfl, ⟨_, _, rfl, ⟨_, _, rfl, ⟨_, _, rfl, rfl, ?_⟩⟩⟩⟩
    refine ⟨_, rfl, .int b.req, "int", rfl, .int _, ⟨_, rfl, ?_⟩⟩
    rw [show btw (.int (b.req : Nat)) 0 9999 = true from btw_t (by omega) (by omega)]
    refine ifF rfl ?_
    refine ⟨_, rfl, _, rfl, .int b.base, "int", 0, b.req, rfl, .int _, ⟨_, rfl, ?_⟩⟩
    rw [show btw (.int (b.base : Nat)) 0 b.req = true from btw_t (by omega) (by omega)]
    refine ifF rfl ?_
    refine ⟨_, rfl, _, _, _, _, _, rfl, .ty _, kt.ty, kt.kit, _, rfl, ifF rfl ?_⟩
    refine ⟨_, rfl, _, _, rfl, .inr ⟨_, ht, rfl⟩, _, _, rfl, rfl, _, rfl, ifF (decide_eq_false (by omega)) ?_⟩
    refine ⟨_, rfl, t, rfl, ⟨xs, ht⟩, fun D hD => ?_⟩
    refine lc_map (walk_tup (xs := xs)) (fun i => V.bl true) (by omega) hD (fun _ s1 => s1.tup ht) ?_ ?_
    · rintro i y H' H'' Q' Z hi s1 ⟨rfl, hy⟩ q'
      refine ⟨rfl, yesI ?_⟩
      obtain ⟨l, hl1, hl2⟩ := hl.at_ hy
      exact ⟨_, rfl, _, rfl, y, l, b.req, rfl, hl2.keep s1, ok.lns_ l (List.mem_of_getElem? hl1), fun H3 s3 => q' H3 s3⟩
    · intro H' s1 hD'
      refine ⟨_, (List.range xs.length).map fun _ => true, rfl, .inl (.inl ?_), ?_⟩
      · rw [hD', List.map_map]; rfl
      · refine Q_bl (q H' s1) ?_
        rw [List.all_map]
        exact (List.all_eq_true.mpr fun _ _ => rfl).symm

theorem ok_whole_octets (T : Txt K mg) : FnOk P w K mg base CX0 4 T.f_whole_octets T.d_whole_octets ["kind", "number", "base"] (sp_whole_octets false) := by
  refine T.F_whole_octets.ok sc_whole_octets (fun vs H Q E h => ?_) (fun cdv A outer s H vs Q E hr h => ?_)
  · obtain ⟨c, n, b, rfl, _⟩ := h
    rfl
  · obtain ⟨c, n, b, rfl, hn, hb, h⟩ := h
    refine ⟨_, (pss_cons (ps_if (pt_cmpR op_eq (pv 0) pe_str (nomark _)) (pss_one (ps_ret (pe_call (ok_number_octets T) (hr.mono (by decide)) rfl T.g_number_octets T.F_number_octets.kp T.b_number_octets .nil pass0 (pa_cons (pv 1) (pa_cons pe_int (pa_cons pe_int pa_nil)))))) pss_nil)
      (pss_cons (ps_if (pt_cmpR op_lt (pv 1) (pv 2) (nomark _)) (pss_one (ps_ret (pe_call (ok_number_octets T) (hr.mono (by decide)) rfl T.g_number_octets T.F_number_octets.kp T.b_number_octets .nil pass0 (pa_cons (pe_op op_sub (pe_op op_sub (pv 2) (pv 1)) pe_int) (pa_cons pe_int (pa_cons pe_int pa_nil)))))) pss_nil)
      (pss_one (ps_ret (pe_call (ok_number_octets T) (hr.mono (by decide)) rfl T.g_number_octets T.F_number_octets.kp T.b_number_octets .nil pass0 (pa_cons (pe_op op_sub (pv 1) (pv 2)) (pa_cons pe_int (pa_cons pe_int pa_nil)))))))), ?_⟩
    rcases h with ⟨rfl, q⟩ | ⟨rfl, q⟩
    · exact ⟨_, rfl, rfl, _, rfl, ifT (by decide) ⟨_, rfl, n, 6, 192, rfl, hn, ⟨by decide, by decide, by decide, by decide +kernel⟩, q⟩⟩
    · refine ⟨_, rfl, rfl, _, rfl, ifF (by decide) ⟨_, rfl, _, rfl, _, _, rfl, rfl, _, rfl, ifb (fun h1 => ?_) (fun h1 => ?_)⟩⟩
      · have h1' : n < b := by have : (n : Int) < (b : Int) := of_decide_eq_true h1; omega
        have q' : RetInts (wholeOct b n) H Q := q
        rw [wholeOct, if_pos h1'] at q'
        refine ⟨_, rfl, _, rfl, _, _, rfl, rfl, _, _, rfl, rfl, ?_⟩
        exact ⟨b - n - 1, 3, 128, by show [V.int ((b : Int) - (n : Int) - 1), V.int 3, V.int 128] = _; rw [show ((b : Int) - (n : Int) - 1) = ((b - n - 1 : Nat) : Int) by omega]; rfl, by omega, ⟨by decide, by decide, by decide, by decide +kernel⟩, q'⟩
      · have h1' : ¬ n < b := by have : ¬ (n : Int) < (b : Int) := of_decide_eq_false h1; omega
        have q' : RetInts (wholeOct b n) H Q := q
        rw [wholeOct, if_neg h1'] at q'
        refine ⟨_, rfl, _, rfl, _, _, rfl, rfl, ?_⟩
        exact ⟨n - b, 2, 16, by show [V.int ((n : Int) - (b : Int)), V.int 2, V.int 16] = _; rw [show ((n : Int) - (b : Int)) = ((n - b : Nat) : Int) by omega]; rfl, by omega, ⟨by decide, by decide, by decide, by decide +kernel⟩, q'⟩
theorem ok_named_octets (T : Txt K mg) : FnOk P w K mg base CX0 4 T.f_named_octets T.d_named_octets ["kind", "number", "base"] (sp_whole_octets true) := by
  refine T.F_named_octets.ok sc_named_octets (fun vs H Q E h => ?_) (fun cdv A outer s H vs Q E hr h => ?_)
  · obtain ⟨c, n, b, rfl, _⟩ := h
    rfl
  · obtain ⟨c, n, b, rfl, hn, hb, h⟩ := h
    refine ⟨_, (pss_cons (ps_if (pt_cmpR op_eq (pv 0) pe_str (nomark _)) (pss_one (ps_ret (pe_call (ok_number_octets T) (hr.mono (by decide)) rfl T.g_number_octets T.F_number_octets.kp T.b_number_octets .nil pass0 (pa_cons (pv 1) (pa_cons pe_int (pa_cons pe_int pa_nil)))))) pss_nil)
      (pss_cons (ps_if (pt_cmpR op_lt (pv 1) (pv 2) (nomark _)) (pss_one (ps_ret (pe_call (ok_number_octets T) (hr.mono (by decide)) rfl T.g_number_octets T.F_number_octets.kp T.b_number_octets .nil pass0 (pa_cons (pe_op op_sub (pe_op op_sub (pv 2) (pv 1)) pe_int) (pa_cons pe_int (pa_cons pe_int pa_nil)))))) pss_nil)
      (pss_one (ps_ret (pe_call (ok_number_octets T) (hr.mono (by decide)) rfl T.g_number_octets T.F_number_octets.kp T.b_number_octets .nil pass0 (pa_cons (pe_op op_sub (pv 1) (pv 2)) (pa_cons pe_int (pa_cons pe_int pa_nil)))))))), ?_⟩
    rcases h with ⟨rfl, q⟩ | ⟨rfl, q⟩
    · exact ⟨_, rfl, rfl, _, rfl, ifT (by decide) ⟨_, rfl, n, 4, 96, rfl, hn, ⟨by decide, by decide, by decide, by decide +kernel⟩, q⟩⟩
    · refine ⟨_, rfl, rfl, _, rfl, ifF (by decide) ⟨_, rfl, _, rfl, _, _, rfl, rfl, _, rfl, ifb (fun h1 => ?_) (fun h1 => ?_)⟩⟩
      · have h1' : n < b := by have : (n : Int) < (b : Int) := of_decide_eq_true h1; omega
        have q' : RetInts (namedOct b n) H Q := q
        rw [namedOct, if_pos h1'] at q'
        refine ⟨_, rfl, _, rfl, _, _, rfl, rfl, _, _, rfl, rfl, ?_⟩
        exact ⟨b - n - 1, 3, 64, by show [V.int ((b : Int) - (n : Int) - 1), V.int 3, V.int 64] = _; rw [show ((b : Int) - (n : Int) - 1) = ((b - n - 1 : Nat) : Int) by omega]; rfl, by omega, ⟨by decide, by decide, by decide, by decide +kernel⟩, q'⟩
      · have h1' : ¬ n < b := by have : ¬ (n : Int) < (b : Int) := of_decide_eq_false h1; omega
        have q' : RetInts (namedOct b n) H Q := q
        rw [namedOct, if_neg h1'] at q'
        refine ⟨_, rfl, _, rfl, _, _, rfl, rfl, ?_⟩
        exact ⟨n - b, 2, 0, by show [V.int ((n : Int) - (b : Int)), V.int 2, V.int 0] = _; rw [show ((n : Int) - (b : Int)) = ((n - b : Nat) : Int) by omega]; rfl, by omega, ⟨by decide, by decide, by decide, by decide +kernel⟩, q'⟩
theorem ok_line_octets (T : Txt K mg) : FnOk P w K mg base CX0 6 T.f_line_octets T.d_line_octets ["line", "base"] (sp_line_octets K) := by
  refine T.F_line_octets.ok sc_line_octets (fun vs H Q E h => ?_) (fun cdv A outer s H vs Q E hr h => ?_)
  · obtain ⟨v, l, b, r, rfl, _⟩ := h
    rfl
  · obtain ⟨v, l, b, r, rfl, ⟨a, rfl, hs⟩, ok, hr9, hbr, q⟩ := h
    refine ⟨_, (pss_cons (ps_set (i := 2) sc_line_octets.nd rfl (Or.inl rfl) (pe_ix ix_tup (pv 0) pe_int (fun _ _ => rfl)))
      (pss_cons (ps_if (pt_cmpR op_eq (pv 2) pe_str (nomark _)) (pss_one (ps_ret (pe_op op_cat (pe_call (ok_string_octets T) (hr.mono (by decide)) rfl T.g_string_octets T.F_string_octets.kp T.b_string_octets .nil pass0 (pa_cons (pe_ix ix_tup (pv 0) pe_int (fun _ _ => rfl)) (pa_cons pe_int (pa_cons pe_int pa_nil)))) (pe_call (ok_value_octets T) (hr.mono (by decide)) rfl T.g_value_octets T.F_value_octets.kp T.b_value_octets .nil pass0 (pa_cons (pe_ix ix_tup (pv 0) pe_int (fun _ _ => rfl)) pa_nil))))) pss_nil)
      (pss_cons (ps_if (pt_cmpR op_eq (pe_callB call_len rfl T.z_len boot_len (pa_cons (pv 0) pa_nil)) pe_int (nomark _)) (pss_one (ps_ret (pe_call (ok_whole_octets T) (hr.mono (by decide)) rfl T.g_whole_octets T.F_whole_octets.kp T.b_whole_octets .nil pass0 (pa_cons (pv 2) (pa_cons (pe_ix ix_tup (pv 0) pe_int (fun _ _ => rfl)) (pa_cons (pv 1) pa_nil)))))) pss_nil)
      (pss_one (ps_ret (pe_op op_cat (pe_call (ok_named_octets T) (hr.mono (by decide)) rfl T.g_named_octets T.F_named_octets.kp T.b_named_octets .nil pass0 (pa_cons (pv 2) (pa_cons (pe_ix ix_tup (pv 0) pe_int (fun _ _ => rfl)) (pa_cons (pv 1) pa_nil)))) (pe_call (ok_value_octets T) (hr.mono (by decide)) rfl T.g_value_octets T.F_value_octets.kp T.b_value_octets .nil pass0 (pa_cons (pe_ix ix_tup (pv 0) pe_int (fun _ _ => rfl)) pa_nil)))))))), ?_⟩
    have e2 : decide (V.int 2 = V.int 2) = true := by decide
    have e3 : decide (V.int 3 = V.int 2) = false := by decide
    cases l with
    | fix1 n =>
      refine ⟨_, rfl, _, _, _, _, rfl, rfl, hs, rfl, ?_⟩
      refine ⟨_, rfl, rfl, _, rfl, ifF (by decide) ⟨_, rfl, _, _, rfl, .inr ⟨_, hs, rfl⟩, rfl, _, rfl, ifT e2 ?_⟩⟩
      exact ⟨_, rfl, _, rfl, _, _, _, _, rfl, rfl, hs, rfl, _, rfl, "fixed", n, b, rfl, ok, by omega, .inl ⟨rfl, q⟩⟩
    | ent1 n =>
      have hn : n < r := ok
      refine ⟨_, rfl, _, _, _, _, rfl, rfl, hs, rfl, ?_⟩
      refine ⟨_, rfl, rfl, _, rfl, ifF (by decide) ⟨_, rfl, _, _, rfl, .inr ⟨_, hs, rfl⟩, rfl, _, rfl, ifT e2 ?_⟩⟩
      exact ⟨_, rfl, _, rfl, _, _, _, _, rfl, rfl, hs, rfl, _, rfl, "entry", n, b, rfl, by omega, by omega, .inr ⟨rfl, q⟩⟩
    | fix2 n x =>
      refine ⟨_, rfl, _, _, _, _, rfl, rfl, hs, rfl, ?_⟩
      refine ⟨_, rfl, rfl, _, rfl, ifF (by decide) ⟨_, rfl, _, _, rfl, .inr ⟨_, hs, rfl⟩, rfl, _, rfl, ifF e3 ?_⟩⟩
      refine ⟨_, rfl, _, rfl, _, _, _, _, rfl, rfl, hs, rfl, _, rfl, "fixed", n, b, rfl, ok.1, by omega, .inl ⟨rfl, fun p H2 hp s2 g2 => ?_⟩⟩
      refine ⟨_, rfl, _, _, _, _, rfl, rfl, s2.tup hs, rfl, x, rfl, ok.2, fun p3 H3 hp3 s3 g3 => ?_⟩
      have g2' : H2 p = some (.lst ((numOct n 4 96).map V.int)) := g2
      have l1 := numOct_len n 4 96
      have l2 := strOct_len (b := 7) (m := 0) (txt_len ok.2)
      have l3 := ok.1
      exact cat_go q (s2.trans s3) (s3 _ _ g2') g3 (by omega)
    | ent2 n x =>
      have hn := ok.1
      refine ⟨_, rfl, _, _, _, _, rfl, rfl, hs, rfl, ?_⟩
      refine ⟨_, rfl, rfl, _, rfl, ifF (by decide) ⟨_, rfl, _, _, rfl, .inr ⟨_, hs, rfl⟩, rfl, _, rfl, ifF e3 ?_⟩⟩
      refine ⟨_, rfl, _, rfl, _, _, _, _, rfl, rfl, hs, rfl, _, rfl, "entry", n, b, rfl, by omega, by omega, .inr ⟨rfl, fun p H2 hp s2 g2 => ?_⟩⟩
      refine ⟨_, rfl, _, _, _, _, rfl, rfl, s2.tup hs, rfl, x, rfl, ok.2, fun p3 H3 hp3 s3 g3 => ?_⟩
      have g2' : H2 p = some (.lst ((namedOct b n).map V.int)) := g2
      have l1 := namedOct_len (base := b) (n := n) (by omega) (by omega)
      have l2 := strOct_len (b := 7) (m := 0) (txt_len ok.2)
      exact cat_go q (s2.trans s3) (s3 _ _ g2') g3 (by omega)
    | out y x =>
      refine ⟨_, rfl, _, _, _, _, rfl, rfl, hs, rfl, ?_⟩
      refine ⟨_, rfl, rfl, _, rfl, ifT (by decide) ?_⟩
      refine ⟨_, rfl, _, _, _, _, rfl, rfl, hs, rfl, y, 4, 32, rfl, txt_20 ok.1, ⟨by decide, by decide, by decide, by decide +kernel⟩, fun p H2 hp s2 g2 => ?_⟩
      refine ⟨_, rfl, _, _, _, _, rfl, rfl, s2.tup hs, rfl, x, rfl, ok.2, fun p3 H3 hp3 s3 g3 => ?_⟩
      have l1 := strOct_len (b := 4) (m := 32) (txt_len (txt_20 ok.1))
      have l2 := strOct_len (b := 7) (m := 0) (txt_len ok.2)
      exact cat_go q (s2.trans s3) (s3 _ _ g2) g3 (by omega)
theorem ok_write_block (T : Txt K mg) : FnOk P w K mg base CX0 7 T.f_write_block T.d_write_block ["block"] (sp_write_block K) := by
  refine T.F_write_block.ok sc_write_block (fun vs H Q E h => ?_) (fun cdv A outer s H vs Q E hr h => ?_)
  · obtain ⟨v, b, rfl, _⟩ := h
    rfl
  · obtain ⟨v, b, rfl, hb, ok, q⟩ := h
    refine ⟨_, (pss_cons (ps_if (pt_not (pt_val (pe_call (ok_is_block T) (hr.mono (by decide)) rfl T.g_is_block T.F_is_block.kp T.b_is_block .nil pass0 (pa_cons (pv 0) pa_nil)))) (pss_one ps_never) pss_nil)
      (pss_cons (ps_asg (pv 0) (pg_tup rfl (pgs_cons (pg_name (i := 1) sc_write_block.nd rfl (Or.inl rfl)) (pgs_cons (pg_name (i := 2) sc_write_block.nd rfl (Or.inl rfl)) (pgs_cons (pg_name (i := 3) sc_write_block.nd rfl (Or.inl rfl)) pgs_nil)))))
      (pss_cons (ps_set (i := 4) sc_write_block.nd rfl (Or.inl rfl) (pe_op op_cat (pe_call (ok_number_octets T) (hr.mono (by decide)) rfl T.g_number_octets T.F_number_octets.kp T.b_number_octets .nil pass0 (pa_cons (pv 1) (pa_cons pe_int (pa_cons pe_int pa_nil)))) (pe_call (ok_number_octets T) (hr.mono (by decide)) rfl T.g_number_octets T.F_number_octets.kp T.b_number_octets .nil pass0 (pa_cons (pe_op op_sub (pv 1) (pv 2)) (pa_cons pe_int (pa_cons pe_int pa_nil))))))
      (pss_cons (ps_for PassesOwn.never rfl (pi_tup (pv 3)) (pg_name (i := 5) sc_write_block.nd rfl (Or.inl rfl))
        (pss_one (ps_expr (pe_bm PySem.F.plainAttrs_list PySem.F.slot_list_extend PySem.F.type_list_extend mt_extend (pv 4) (pa_cons (pe_call (ok_line_octets T) (hr.mono (by decide)) rfl T.g_line_octets T.F_line_octets.kp T.b_line_octets .nil pass0 (pa_cons (pv 5) (pa_cons (pv 2) pa_nil))) pa_nil)))))
      (pss_one (ps_ret (pv 4))))))), ?_⟩
    have o1 := ok.req_
    have o2 := ok.base_
    have o3 := ok.len_
    refine ⟨_, rfl, v, b, rfl, hb, ok, fun H1 s1 => ⟨_, rfl, ifF rfl ?_⟩⟩
    obtain ⟨a, t, xs, rfl, hs, ht, hl⟩ := hb.keep s1
    have hll := hl.len
    refine ⟨_, rfl, a, _, rfl, hs, rfl, ⟨_, _, rfl, ⟨_, _, rfl, ⟨_, _, rfl, rfl, ?_⟩⟩⟩⟩
    refine ⟨_, rfl, b.req, 8, 0, rfl, o1, mark0 (by decide) (by decide), fun p2 H2 hp2 s2 g2 => ?_⟩
    refine ⟨_, rfl, _, rfl, _, _, rfl, rfl, b.req - b.base, 8, 0, by show [V.int ((b.req : Int) - (b.base : Int)), V.int 8, V.int 0] = _; rw [show ((b.req : Int) - (b.base : Int)) = ((b.req - b.base : Nat) : Int) by omega]; rfl, by omega, mark0 (by decide) (by decide), fun p3 H3 hp3 s3 g3 => ?_⟩
    have l1 := numOct_len b.req 8 0
    have l2 := numOct_len (b.req - b.base) 8 0
    refine ⟨p2, p3, _, _, rfl, rfl, s3 _ _ g2, g3, by rw [List.length_map, List.length_map, sizeLine_eq]; omega, fun oc hoc => ?_⟩
    have S3 := s2.trans s3
    have hoc1 : H1 oc = none := S3.free hoc
    refine ⟨_, rfl, t, rfl, ⟨xs, (S3.trans (Same.new hoc)).tup ht⟩, ?_⟩
    refine for_it (walk_tup (xs := xs)) (fun i σ H' => ∃ v5 : Option V, σ = [some (.ref a), some (.int b.req), some (.int b.base), some (.ref t), some (.ref oc), v5] ∧ Same H1 H' ∧ H' oc = some (.lst (((numOct b.req 8 0 ++ numOct (b.req - b.base) 8 0) ++ lnsOct b.base (b.ls.take i)).map V.int))) ⟨_, rfl, S3.put hoc1, ?_⟩ (fun i σ H' _ ⟨_, _, s', _⟩ => s'.tup ht) ?_ ?_
    · rw [upd_same, List.take_zero, ← List.map_append]
      show some (HO.lst _) = some (HO.lst ((_ ++ []).map V.int))
      rw [List.append_nil]
    · rintro i x σ H4 H4' hi ⟨v5, rfl, s4, g4⟩ ⟨rfl, hx⟩
      obtain ⟨l, hl1, hl2⟩ := hl.at_ hx
      have hlo := ok.lns_ l (List.mem_of_getElem? hl1)
      refine ⟨_, rfl, .inl ⟨rfl, _, SqL.of g4⟩, _, rfl, _, rfl, x, l, b.base, b.req, rfl, hl2.keep s4, hlo, o1, o2, fun p5 H5 hp5 s5 g5 => ?_⟩
      have l3 := lns_take_len (i := i) o1 o2 ok.lns_ o3
      have l4 := ln_len (base := b.base) hlo o1 o2
      refine ⟨oc, p5, _, _, rfl, rfl, s5 _ _ g4, g5, ?_, ?_⟩
      · rw [List.length_map, List.length_map, List.length_append, List.length_append, sizeLine_eq]; omega
      · refine ⟨_, rfl, (s4.trans s5).put hoc1, ?_⟩
        rw [upd_same, lns_succ hl1, ← List.map_append, List.append_assoc]
    · rintro σ H4 ⟨v5, rfl, s4, g4⟩
      refine ⟨_, rfl, q oc H4 (s1.free hoc1) (s1.trans s4) ?_⟩
      rw [g4, hll, List.take_length]
      rfl

theorem ok_check_setting (T : Txt K mg) : FnOk P w K mg base CX0 6 T.f_check_setting T.d_check_setting ["setting"] (sp_check_setting K) := by
  refine T.F_check_setting.ok sc_check_setting (fun vs H Q E h => ?_) (fun cdv A outer s H vs Q E hr h => ?_)
  · obtain ⟨v, F, r, w, rfl, _⟩ := h
    rfl
  · obtain ⟨v, F, r, w, rfl, hv, ok, q⟩ := h
    refine ⟨_, (pss_one (ps_if (pt_not (pt_val (pe_call (ok_is_setting T) (hr.mono (by decide)) rfl T.g_is_setting T.F_is_setting.kp T.b_is_setting .nil pass0 (pa_cons (pv 0) pa_nil)))) (pss_one ps_never) pss_nil)), ?_⟩
    refine ⟨_, rfl, v, sdat F r w, rfl, .ofDp hv.dp, lim_set ok, fun H1 s1 => ⟨_, rfl, ?_⟩⟩
    rw [dSetting_ok ok]
    exact ifF rfl (q H1 s1)
theorem ok_referred (T : Txt K mg) : FnOk P w K mg base CX0 1 T.f_referred T.d_referred ["fixed", "entries", "kind", "number"] (sp_referred K) := by
  refine T.F_referred.ok sc_referred (fun vs H Q E h => ?_) (fun cdv A outer s H vs Q E hr h => ?_)
  · obtain ⟨t, D, F, es, k, n, rfl, _⟩ := h
    rfl
  · obtain ⟨t, D, F, es, k, n, rfl, hT, h⟩ := h
    obtain ⟨xs, hx, hf⟩ := hT.fx
    obtain ⟨kvs, hD, hp⟩ := hT.en
    refine ⟨_, (pss_cons (ps_if (pt_cmpR op_eq (pv 2) pe_str (nomark _)) (pss_one (ps_ret (pe_dget1 (hu_of hr) (pv 1) (pv 3) ⟨rfl, rfl, rfl, rfl⟩))) pss_nil)
      (pss_cons (ps_if (pt_cmpR op_lt (pv 3) (pe_callB call_len rfl T.z_len boot_len (pa_cons (pv 0) pa_nil)) (nomark _)) (pss_one (ps_ret (pe_ix ix_tup (pv 0) (pv 3) (fun _ _ => rfl)))) pss_nil)
      (pss_one (ps_ret pe_non)))), ?_⟩
    have hl := p_len hf
    rcases h with ⟨rfl, q⟩ | ⟨rfl, q⟩
    · refine ⟨_, rfl, rfl, _, rfl, ifF (by decide) ?_⟩
      refine ⟨_, rfl, _, rfl, _, _, rfl, .inr ⟨_, hx, rfl⟩, _, _, rfl, rfl, _, rfl, ifb (fun e => ?_) (fun e => ?_)⟩
      · have e' : (n : Int) < (xs.length : Int) := by simpa using e
        have hn : n < F.length := by omega
        obtain ⟨v, hv, hfd⟩ := p_at' hf (List.getElem?_eq_getElem hn)
        refine ⟨_, rfl, _, rfl, _, _, _, v, rfl, rfl, hx, atI_nat hv, q v ?_⟩
        rw [List.getElem?_eq_getElem hn]; exact hfd
      · have e' : ¬ (n : Int) < (xs.length : Int) := by simpa using e
        refine q .non ?_
        rw [List.getElem?_eq_none (by omega)]; rfl
    · refine ⟨_, rfl, rfl, _, rfl, ifT (by decide) ?_⟩
      refine ⟨_, rfl, D, rfl, .inl ⟨kvs, .inl hD⟩, _, rfl, _, DGet.k (k := nkey n) hD, ?_⟩
      rcases look_get (n := n) hp with ⟨h1, h2⟩ | ⟨v, f, h1, h2, h3⟩
      · rw [h1]; exact q _ (by rw [h2]; rfl)
      · rw [h1]; exact q _ (by rw [h2]; exact h3)
theorem ok_said_field (T : Txt K mg) : FnOk P w K mg base CX0 2 T.f_said_field T.d_said_field ["fixed", "entries", "line"] (sp_said_field K) := by
  refine T.F_said_field.ok sc_said_field (fun vs H Q E h => ?_) (fun cdv A outer s H vs Q E hr h => ?_)
  · obtain ⟨t, D, F, es, v, l, rfl, _⟩ := h
    rfl
  · obtain ⟨t, D, F, es, v, l, rfl, hT, ⟨a, rfl, hs⟩, q⟩ := h
    refine ⟨_, (pss_cons (ps_if (pt_cmpR op_eq (pe_ix ix_tup (pv 2) pe_int (fun _ _ => rfl)) pe_str (nomark _)) (pss_one (ps_ret (pe_tup (pa_cons (pe_ix ix_tup (pv 2) pe_int (fun _ _ => rfl)) (pa_cons (pe_ix ix_tup (pv 2) pe_int (fun _ _ => rfl)) pa_nil))))) pss_nil)
      (pss_cons (ps_set (i := 3) sc_said_field.nd rfl (Or.inl rfl) (pe_call (ok_referred T) (hr.mono (by decide)) rfl T.g_referred T.F_referred.kp T.b_referred .nil pass0 (pa_cons (pv 0) (pa_cons (pv 1) (pa_cons (pe_ix ix_tup (pv 2) pe_int (fun _ _ => rfl)) (pa_cons (pe_ix ix_tup (pv 2) pe_int (fun _ _ => rfl)) pa_nil))))))
      (pss_cons (ps_if (PW.pt (pw_or (pt_cmpR op_isN (pv 3) pe_non (nomark _)) (pw_or1 (pt_cmpR op_eq (pe_callB call_len rfl T.z_len boot_len (pa_cons (pv 2) pa_nil)) pe_int (nomark _))))) (pss_one (ps_ret (pv 3))) pss_nil)
      (pss_one (ps_ret (pe_tup (pa_cons (pe_ix ix_tup (pv 3) pe_int (fun _ _ => rfl)) (pa_cons (pe_ix ix_tup (pv 2) pe_int (fun _ _ => rfl)) pa_nil)))))))), ?_⟩
    have e22 : decide (V.int 2 = V.int 2) = true := by decide
    have e32 : decide (V.int 3 = V.int 2) = false := by decide
    cases l with
    | out y x =>
      refine ⟨_, rfl, _, _, _, _, rfl, rfl, hs, rfl, rfl, _, rfl, ifT (by decide) ?_⟩
      refine ⟨_, rfl, _, _, _, _, rfl, rfl, hs, rfl, _, rfl, _, _, _, _, rfl, rfl, hs, rfl, by show 2 ≤ sizeLine; decide, fun p hp => ?_⟩
      exact q _ _ (Same.new hp) ⟨p, rfl, SqT.of upd_same⟩
    | fix1 n =>
      refine ⟨_, rfl, _, _, _, _, rfl, rfl, hs, rfl, rfl, _, rfl, ifF (by decide) ?_⟩
      refine ⟨_, rfl, _, rfl, _, rfl, _, _, _, _, rfl, rfl, hs, rfl, _, rfl, _, _, _, _, rfl, rfl, hs, rfl, t, D, F, es, "fixed", n, rfl, hT, .inl ⟨rfl, fun v hv => ?_⟩⟩
      have hv' : OFd K H v (said1 F es (.fix1 n)) := hv
      cases hc : F[n]? with
      | none => rw [hc] at hv; cases (show v = .non from hv); exact ⟨_, rfl, rfl, _, rfl, ifT rfl ⟨_, rfl, q _ _ (Same.refl _) hv'⟩⟩
      | some f =>
        rw [hc] at hv
        obtain ⟨b, rfl, hb⟩ := (show FdV K H v f from hv)
        exact ⟨_, rfl, rfl, _, rfl, ifF rfl ⟨_, rfl, _, _, rfl, .inr ⟨_, hs, rfl⟩, rfl, _, rfl, ifT e22 ⟨_, rfl, q _ _ (Same.refl _) hv'⟩⟩⟩
    | ent1 n =>
      refine ⟨_, rfl, _, _, _, _, rfl, rfl, hs, rfl, rfl, _, rfl, ifF (by decide) ?_⟩
      refine ⟨_, rfl, _, rfl, _, rfl, _, _, _, _, rfl, rfl, hs, rfl, _, rfl, _, _, _, _, rfl, rfl, hs, rfl, t, D, F, es, "entry", n, rfl, hT, .inr ⟨rfl, fun v hv => ?_⟩⟩
      have hv' : OFd K H v (said1 F es (.ent1 n)) := hv
      cases hc : lookE es n with
      | none => rw [hc] at hv; cases (show v = .non from hv); exact ⟨_, rfl, rfl, _, rfl, ifT rfl ⟨_, rfl, q _ _ (Same.refl _) hv'⟩⟩
      | some f =>
        rw [hc] at hv
        obtain ⟨b, rfl, hb⟩ := (show FdV K H v f from hv)
        exact ⟨_, rfl, rfl, _, rfl, ifF rfl ⟨_, rfl, _, _, rfl, .inr ⟨_, hs, rfl⟩, rfl, _, rfl, ifT e22 ⟨_, rfl, q _ _ (Same.refl _) hv'⟩⟩⟩
    | fix2 n x =>
      refine ⟨_, rfl, _, _, _, _, rfl, rfl, hs, rfl, rfl, _, rfl, ifF (by decide) ?_⟩
      refine ⟨_, rfl, _, rfl, _, rfl, _, _, _, _, rfl, rfl, hs, rfl, _, rfl, _, _, _, _, rfl, rfl, hs, rfl, t, D, F, es, "fixed", n, rfl, hT, .inl ⟨rfl, fun v hv => ?_⟩⟩
      have e1 : said1 F es (.fix2 n x) = (F[n]?).map fun f => (f.1, x) := rfl
      cases hc : F[n]? with
      | none =>
        rw [hc] at hv e1; cases (show v = .non from hv)
        exact ⟨_, rfl, rfl, _, rfl, ifT rfl ⟨_, rfl, q _ _ (Same.refl _) (by rw [e1]; rfl)⟩⟩
      | some f =>
        rw [hc] at hv e1
        obtain ⟨b, rfl, hb⟩ := (show FdV K H v f from hv)
        refine ⟨_, rfl, rfl, _, rfl, ifF rfl ⟨_, rfl, _, _, rfl, .inr ⟨_, hs, rfl⟩, rfl, _, rfl, ifF e32 ?_⟩⟩
        refine ⟨_, rfl, _, _, _, _, rfl, rfl, hb, rfl, _, rfl, _, _, _, _, rfl, rfl, hs, rfl, by show 2 ≤ sizeLine; decide, fun p hp => ?_⟩
        exact q _ _ (Same.new hp) (by rw [e1]; exact ⟨p, rfl, SqT.of upd_same⟩)
    | ent2 n x =>
      refine ⟨_, rfl, _, _, _, _, rfl, rfl, hs, rfl, rfl, _, rfl, ifF (by decide) ?_⟩
      refine ⟨_, rfl, _, rfl, _, rfl, _, _, _, _, rfl, rfl, hs, rfl, _, rfl, _, _, _, _, rfl, rfl, hs, rfl, t, D, F, es, "entry", n, rfl, hT, .inr ⟨rfl, fun v hv => ?_⟩⟩
      have e1 : said1 F es (.ent2 n x) = (lookE es n).map fun f => (f.1, x) := rfl
      cases hc : lookE es n with
      | none =>
        rw [hc] at hv e1; cases (show v = .non from hv)
        exact ⟨_, rfl, rfl, _, rfl, ifT rfl ⟨_, rfl, q _ _ (Same.refl _) (by rw [e1]; rfl)⟩⟩
      | some f =>
        rw [hc] at hv e1
        obtain ⟨b, rfl, hb⟩ := (show FdV K H v f from hv)
        refine ⟨_, rfl, rfl, _, rfl, ifF rfl ⟨_, rfl, _, _, rfl, .inr ⟨_, hs, rfl⟩, rfl, _, rfl, ifF e32 ?_⟩⟩
        refine ⟨_, rfl, _, _, _, _, rfl, rfl, hb, rfl, _, rfl, _, _, _, _, rfl, rfl, hs, rfl, by show 2 ≤ sizeLine; decide, fun p hp => ?_⟩
        exact q _ _ (Same.new hp) (by rw [e1]; exact ⟨p, rfl, SqT.of upd_same⟩)
theorem ok_Table_leaving (T : Txt K mg) : FnOk P w K mg base CX0 2 T.f_Table_leaving T.d_Table_leaving ["self", "bound", "more"] (sp_leaving K T.C_Table) := by
  refine T.F_Table_leaving.ok sc_Table_leaving (fun vs H Q E h => ?_) (fun cdv A outer s H vs Q E hr h => ?_)
  · obtain ⟨a, D, sv, F, r, w, b, m, t, rfl, _⟩ := h
    rfl
  · obtain ⟨a, D, sv, F, r, w, b, m, t, rfl, hT, ok, hm, hb, q⟩ := h
    obtain ⟨dx, e⟩ := hT.ob
    have hDa := hT.ne
    obtain ⟨kvs, hD, hp⟩ := id hT.en
    have hkl := p_len hp
    have hl24 := ok.len
    refine ⟨_, (pss_cons (ps_set (i := 3) sc_Table_leaving.nd rfl (Or.inl rfl) (pe_op op_add (pv 2) (pe_callB (cr_sum rfl) rfl T.z_sum boot_sum (pa_cons (pe_lock (pe_lc (own := [("field", 4)]) (g := (gName 4)) (tt := tYes)  rfl sc_Table_leaving.nd (pi_values (pe_fld (pv 0) rfl)) (blkOk_by (own := [("field", 4)]) (N := ["self", "bound", "more", "total", "field", "numbers", "number"]) (sc := defScope s_Table_leaving) (by decide +kernel)) (fun _ _ _ _ _ => (pg_name (i := 4) sc_Table_leaving.nd rfl (Or.inl rfl))) (fun _ _ _ _ _ => pts_nil) (fun _ _ _ _ _ => (pe_call (ok_entry_size T) (hr.mono (by decide)) rfl T.g_entry_size T.F_entry_size.kp T.b_entry_size .nil pass0 (pa_cons (pv 4) pa_nil))))) pa_nil))))
      (pss_cons (ps_set (i := 5) sc_Table_leaving.nd rfl (Or.inl rfl) (pe_lst pa_nil))
      (pss_cons (ps_lock (ps_for PassesOwn.never rfl (pi_keys (pe_fld (pv 0) rfl)) (pg_name (i := 6) sc_Table_leaving.nd rfl (Or.inl rfl))
        (pss_cons (ps_if (pt_cmpR op_le (pv 3) (pv 1) (nomark _)) (pss_one ps_break) pss_nil)
      (pss_cons (ps_aug (i := 3) sc_Table_leaving.nd rfl (Or.inl rfl) (pe_call (ok_entry_size T) (hr.mono (by decide)) rfl T.g_entry_size T.F_entry_size.kp T.b_entry_size .nil pass0 (pa_cons (pe_dget (hu_of hr) (pe_fld (pv 0) rfl) (pv 6) (fun _ _ => rfl)) pa_nil)) ip_sub)
      (pss_one (ps_expr (pe_bm PySem.F.plainAttrs_list PySem.F.slot_list_append PySem.F.type_list_append mt_append (pv 5) (pa_cons (pv 6) pa_nil))))))))
      (pss_one (ps_ret (pv 5)))))), ?_⟩
    refine ⟨_, rfl, D, .dK kvs, hD, True.intro, fun od => ?_⟩
    have tl : TS H (upd H D (.frz od (.dK kvs))) := TS.at hD nt_dK
    have eL : upd H D (.frz od (.dK kvs)) a = some (.ins T.C_Table dx (tfs sv t D)) := by rw [upd_ne (Ne.symm hDa)]; exact e
    refine ⟨_, rfl, _, _, _, _, _, rfl, eL, T.cl_Table, T.nA_Table_kept, rfl, D, od, kvs, rfl, upd_same, fun C hC => ?_⟩
    have nDC : D ≠ C := fun z => by rw [← z, upd_same] at hC; cases hC
    refine lc_map walk_values (fun i => V.int ((fsz (t.es.getD i fd0).2 : Nat) : Int)) (by omega) hC (fun H' s1 => s1 _ _ upd_same) ?_ ?_
    · rintro i x H' H'' Q' Z hi s1 ⟨rfl, k, hk⟩ q'
      obtain ⟨en, he, hpe⟩ := p_at hp hk
      refine ⟨rfl, yesI ?_⟩
      refine ⟨_, rfl, x, en.2, rfl, hpe.2.ts (tl.trans (.of s1)), ok.fd _ (List.mem_of_getElem? he), ?_⟩
      have := q' H'' (Same.refl _)
      rw [getD_of fd0 he] at this
      exact this
    intro H1 s1 hC1
    have sU := unlock hD s1
    refine ⟨s1 _ _ upd_same, C, (List.range kvs.length).map fun i => ((fsz (t.es.getD i fd0).2 : Nat) : Int), rfl, SqL.of (by rw [upd_ne (Ne.symm nDC), hC1, List.map_map]; rfl), _, _, rfl, rfl, ?_⟩
    rw [hkl, sum_range]
    have gD1 : upd H1 D (.dK kvs) D = some (.dK kvs) := upd_same
    have e1 := sU _ _ e
    have hCH : (upd H1 D (.dK kvs)) C ≠ none := by rw [upd_ne (Ne.symm nDC), hC1]; exact fun z => nomatch z
    show tSeq _ _ _ _ (upd H1 D (.dK kvs))
    generalize upd H1 D (.dK kvs) = H2 at sU gD1 e1 ⊢
    have p2 := pmap (fun _ _ z => PrV.ts z (.of sU)) hp
    refine ⟨by show 0 ≤ sizeLine; decide, fun L hL => ?_⟩
    have hLH : H L = none := sU.free hL
    have sL := Same.new (o := .lst []) hL
    have gL : upd H2 L (.lst []) L = some (.lst []) := upd_same
    have gD3 := sL _ _ gD1
    have e3 := sL _ _ e1
    have s03 := sU.trans sL
    have nLD : L ≠ D := fun z => by rw [z, gD1] at hL; cases hL
    have nLa : L ≠ a := fun z => by rw [z, e1] at hL; cases hL
    show tSeq _ _ _ _ (upd H2 L (.lst []))
    generalize upd H2 L (.lst []) = H3 at gL gD3 e3 s03 sL ⊢
    refine ⟨D, .dK kvs, gD3, True.intro, fun od2 => ?_⟩
    have eL3 : upd H3 D (.frz od2 (.dK kvs)) a = some (.ins T.C_Table dx (tfs sv t D)) := by rw [upd_ne (Ne.symm hDa)]; exact e3
    refine ⟨_, rfl, _, _, _, _, _, rfl, eL3, T.cl_Table, T.nA_Table_kept, rfl, D, od2, rfl, .inl ⟨kvs, upd_same, ?_⟩⟩
    have fin : ∀ (H' : Hp) (i : Nat), i ≤ t.es.length → (∀ j, j < i → ¬ m + sumE (t.es.drop j) ≤ b) → (i = t.es.length ∨ m + sumE (t.es.drop i) ≤ b) → (∀ b o, b ≠ L → upd H3 D (.frz od2 (.dK kvs)) b = some o → H' b = some o) → H' L = some (.lst (eInts (t.es.take i))) → Q (.ref L) (upd H' D (.dK kvs)) := fun H' i h1 h2 h3 hk hL' => by
      refine q L _ hLH (fun c o ec => ?_) ?_
      · by_cases z : c = D
        · subst z; rw [upd_same]; rw [hD] at ec; exact ec
        · rw [upd_ne z]
          have nc : c ≠ L := fun z2 => by rw [z2, hLH] at ec; cases ec
          exact hk c o nc (by rw [upd_ne z]; exact s03 _ _ ec)
      · rw [upd_ne nLD, (gone_take t.es i h1 h2 h3).1]; exact hL'
    refine for_it walk_keys (fun i σ H' => ∃ (v6 : Option V), σ = [some (.ref a), some (.int (b : Nat)), some (.int (m : Nat)), some (.int ((m + sumE (t.es.drop i) : Nat) : Int)), none, some (.ref L), v6] ∧ H' D = some (.frz od2 (.dK kvs)) ∧ H' L = some (.lst (eInts (t.es.take i))) ∧ (∀ b o, b ≠ L → upd H3 D (.frz od2 (.dK kvs)) b = some o → H' b = some o) ∧ ∀ j, j < i → ¬ m + sumE (t.es.drop j) ≤ b) ⟨none, ?_, upd_same, by rw [upd_ne nLD]; exact gL, fun _ _ _ z => z, fun _ z => (nomatch z)⟩ (fun i σ H' _ ⟨_, _, z, _⟩ => z) ?_ ?_
    · have e0 : ((m : Int) + ((sumE t.es : Nat) : Int)) = ((m + sumE (t.es.drop 0) : Nat) : Int) := by rw [List.drop_zero]; omega
      rw [← e0]
      rfl
    · rintro i x σ H' H'' hi ⟨v6, rfl, gD', gL', hk, hj⟩ ⟨rfl, ky, v0, hkv, rfl⟩
      obtain ⟨en, he, hpe⟩ := p_at p2 hkv
      have hky : ky = nkey en.1 := hpe.1
      subst hky
      have hdr := drop_at he
      have hil := (List.getElem?_eq_some_iff.mp he).1
      refine ⟨_, rfl, _, rfl, _, _, rfl, rfl, _, rfl, ifb (fun h => ?_) (fun h => ?_)⟩
      · have h' : m + sumE (t.es.drop i) ≤ b := by have : (((m + sumE (t.es.drop i) : Nat) : Int)) ≤ (b : Nat) := of_decide_eq_true h; omega
        exact ⟨gD', _, rfl, fin _ i (by omega) hj (.inr h') hk gL'⟩
      · have h' : ¬ m + sumE (t.es.drop i) ≤ b := by have : ¬ (((m + sumE (t.es.drop i) : Nat) : Int)) ≤ (b : Nat) := of_decide_eq_false h; omega
        have eA := hk _ _ (Ne.symm nLa) eL3
        rcases look_get (n := en.1) p2 with ⟨_, h0⟩ | ⟨v, f, hv, hf, hfd⟩
        · obtain ⟨g, hg⟩ := look_has (es := t.es) (n := en.1) (f := en.2) (List.mem_of_getElem? he)
          rw [h0] at hg; cases hg
        have hfe : f = en.2 := by
          have h1 := (look_some_iff ok.nd).mpr (List.mem_of_getElem? he)
          rw [hf] at h1; exact Option.some.inj h1
        have tH : TS H2 H'' := ((TS.of sL).trans (TS.at gD3 nt_dK)).trans (fun c o tc ec => by
          by_cases z : c = L
          · subst z; rw [upd_ne nLD, gL] at ec; cases ec; exact absurd tc nt_lst
          · exact hk c o z ec)
        refine ⟨_, rfl, _, rfl, _, _, _, _, _, rfl, eA, T.cl_Table, T.nA_Table_kept, rfl, _, rfl, D, v, rfl, .inl ⟨kvs, nkey en.1, .inr ⟨od2, gD'⟩, rfl, hv.symm⟩, v, f, rfl, hfd.ts tH, ok.fd _ (look_mem hf), _, _, rfl, rfl, ?_⟩
        have gLn : (t.es.take i).length < 30 := by rw [List.length_take]; omega
        refine ⟨_, rfl, .inl ⟨rfl, _, SqL.of gL'⟩, _, rfl, L, _, _, rfl, rfl, gL', by unfold eInts; rw [List.length_map, sizeLine_eq]; omega, ?_⟩
        refine ⟨some (kV (nkey en.1)), ?_, by rw [upd_ne (Ne.symm nLD)]; exact gD', ?_, fun c o nc ec => by rw [upd_ne nc]; exact hk c o nc ec, fun j hj' => ?_⟩
        · have e9 : ((m + sumE (t.es.drop i) : Nat) : Int) - ((fsz f : Nat) : Int) = ((m + sumE (t.es.drop (i + 1)) : Nat) : Int) := by
            rw [hdr, sumE_cons, hfe]; omega
          rw [← e9]; rfl
        · rw [upd_same, List.take_add_one, he]
          unfold eInts
          rw [List.map_append]; rfl
        · rcases Nat.lt_or_ge j i with z | z
          · exact hj j z
          · have : j = i := by omega
            subst this; exact h'
    · rintro σ H' ⟨v6, rfl, gD', gL', hk, hj⟩
      rw [hkl] at gL' hj
      exact ⟨gD', _, rfl, fin _ t.es.length (Nat.le_refl _) hj (.inl rfl) hk gL'⟩

theorem ok_Table_set_bound (T : Txt K mg) : FnOk P w K mg base CX0 3 T.f_Table_set_bound T.d_Table_set_bound ["self", "bound"] (sp_set_bound K T.C_Table) := by
  refine T.F_Table_set_bound.ok sc_Table_set_bound (fun vs H Q E h => ?_) (fun cdv A outer s H vs Q E hr h => ?_)
  · obtain ⟨a, D, sv, F, r, w, n, t, rfl, _⟩ := h
    rfl
  · obtain ⟨a, D, sv, F, r, w, n, t, rfl, hT, ok, q1, q2⟩ := h
    obtain ⟨dx, e⟩ := hT.ob
    obtain ⟨sa, ft, fx, rfl, g1, g2, g3⟩ := id hT.st
    have hrm := ok.rm
    refine ⟨_, (pss_cons (ps_if (pt_cmpR op_gt (pv 1) (pe_ix ix_tup (pe_fld (pv 0) rfl) pe_int (fun _ _ => rfl)) (nomark _)) (pss_one (ps_ret pe_bl)) pss_nil)
      (pss_cons (ps_expr (pe_meth (pv 0) T.cl_Table T.m_Table_drop (ok_Table_drop T) (hr.mono (by decide)) T.b_Table_drop .nil pass0 (pa_cons (pe_meth (pv 0) T.cl_Table T.m_Table_leaving (ok_Table_leaving T) (hr.mono (by decide)) T.b_Table_leaving .nil pass0 (pa_cons (pv 1) (pa_cons pe_int pa_nil))) pa_nil)))
      (pss_cons (ps_fld (pv 0) (pv 1) rfl)
      (pss_one (ps_ret pe_bl))))), ?_⟩
    refine ⟨_, rfl, _, rfl, _, _, _, _, _, rfl, e, T.cl_Table, T.nA_Table_setting, rfl, _, _, _, _, rfl, rfl, g1, rfl, _, _, rfl, rfl, _, rfl, ifb (fun h => ?_) (fun h => ?_)⟩
    · exact q1 (by have : ((r : Nat) : Int) < (n : Nat) := by simpa using h
                   omega)
    have hn : n ≤ r := by
      have : ¬ ((r : Nat) : Int) < (n : Nat) := by simpa using h
      omega
    refine ⟨_, rfl, a, dx, _, rfl, e, rfl, _, rfl, a, dx, _, rfl, e, rfl, _, rfl, a, D, _, F, r, w, n, 0, t, rfl, hT, ok, by omega, by omega, fun L H1 hL s1 gL => ?_⟩
    refine ⟨a, D, L, _, F, r, w, n, 0, t, rfl, hT.same s1, ok, gL, fun H2 k2 hE2 => ?_⟩
    have e2 := k2 _ _ (by simpa using Ne.symm hT.ne) (s1 _ _ e)
    refine ⟨_, rfl, _, rfl, _, _, _, _, rfl, e2, T.cl_Table, T.nA_Table_bound, by show 4 < 1000; decide, ?_⟩
    have k3 : ButS [a, D] H (upd H2 a (.ins T.C_Table dx (tfs (.ref sa) ⟨n, t.made, keepE n 0 t.es⟩ D))) := ((ButS.of s1).trans (k2.mono (by simp))).trans (ButS.set (by simp))
    refine q2 hn _ k3 ⟨⟨dx, upd_same⟩, hE2.ts (TS.at e2 nt_ins) fun o eo => by rw [upd_ne hT.ne]; exact eo, hT.st.ts (k3.ts hT.nt)⟩
theorem ok_referred__z (T : Txt K mg) : FnOk P w K mg base CX0 1 T.f_referred T.d_referred ["fixed", "entries", "kind", "number"] (sp_referredZ K) := by
  refine T.F_referred.ok sc_referred (fun vs H Q E h => ?_) (fun cdv A outer s H vs Q E hr h => ?_)
  · obtain ⟨t, D, F, es, z, rfl, _⟩ := h
    rfl
  · obtain ⟨t, D, F, es, z, rfl, hT, q⟩ := h
    obtain ⟨kvs, hD, hp⟩ := hT.en
    refine ⟨_, (pss_cons (ps_if (pt_cmpR op_eq (pv 2) pe_str (nomark _)) (pss_one (ps_ret (pe_dget1 (hu_of hr) (pv 1) (pv 3) ⟨rfl, rfl, rfl, rfl⟩))) pss_nil)
      (pss_cons (ps_if (pt_cmpR op_lt (pv 3) (pe_callB call_len rfl T.z_len boot_len (pa_cons (pv 0) pa_nil)) (nomark _)) (pss_one (ps_ret (pe_ix ix_tup (pv 0) (pv 3) (fun _ _ => rfl)))) pss_nil)
      (pss_one (ps_ret pe_non)))), ?_⟩
    refine ⟨_, rfl, rfl, _, rfl, ifT (by decide) ?_⟩
    refine ⟨_, rfl, D, rfl, .inl ⟨kvs, .inl hD⟩, _, rfl, _, DGet.k (k := Sum.inl z) hD, ?_⟩
    rcases look_int (z := z) hp with ⟨h1, h2⟩ | ⟨v, f, h1, h2, h3⟩
    · rw [h1]; exact q _ (by rw [h2]; rfl)
    · rw [h1]; exact q _ (by rw [h2]; exact h3)
theorem ok_said_field__z (T : Txt K mg) : FnOk P w K mg base CX0 2 T.f_said_field T.d_said_field ["fixed", "entries", "line"] (sp_said_fieldZ K) := by
  refine T.F_said_field.ok sc_said_field (fun vs H Q E h => ?_) (fun cdv A outer s H vs Q E hr h => ?_)
  · obtain ⟨t, D, u, F, es, z, x, rfl, _⟩ := h
    rfl
  · obtain ⟨t, D, u, F, es, z, x, rfl, hT, hs, q⟩ := h
    have e32 : decide (V.int 3 = V.int 2) = false := by decide
    refine ⟨_, (pss_cons (ps_if (pt_cmpR op_eq (pe_ix ix_tup (pv 2) pe_int (fun _ _ => rfl)) pe_str (nomark _)) (pss_one (ps_ret (pe_tup (pa_cons (pe_ix ix_tup (pv 2) pe_int (fun _ _ => rfl)) (pa_cons (pe_ix ix_tup (pv 2) pe_int (fun _ _ => rfl)) pa_nil))))) pss_nil)
      (pss_cons (ps_set (i := 3) sc_said_field.nd rfl (Or.inl rfl) (pe_call (ok_referred__z T) (hr.mono (by decide)) rfl T.g_referred T.F_referred.kp T.b_referred .nil pass0 (pa_cons (pv 0) (pa_cons (pv 1) (pa_cons (pe_ix ix_tup (pv 2) pe_int (fun _ _ => rfl)) (pa_cons (pe_ix ix_tup (pv 2) pe_int (fun _ _ => rfl)) pa_nil))))))
      (pss_cons (ps_if (PW.pt (pw_or (pt_cmpR op_isN (pv 3) pe_non (nomark _)) (pw_or1 (pt_cmpR op_eq (pe_callB call_len rfl T.z_len boot_len (pa_cons (pv 2) pa_nil)) pe_int (nomark _))))) (pss_one (ps_ret (pv 3))) pss_nil)
      (pss_one (ps_ret (pe_tup (pa_cons (pe_ix ix_tup (pv 3) pe_int (fun _ _ => rfl)) (pa_cons (pe_ix ix_tup (pv 2) pe_int (fun _ _ => rfl)) pa_nil)))))))), ?_⟩
    refine ⟨_, rfl, _, _, _, _, rfl, rfl, hs, rfl, rfl, _, rfl, ifF (by decide) ?_⟩
    refine ⟨_, rfl, _, rfl, _, rfl, _, _, _, _, rfl, rfl, hs, rfl, _, rfl, _, _, _, _, rfl, rfl, hs, rfl, t, D, F, es, z, rfl, hT, fun v hv => ?_⟩
    cases hc : lookI es z with
    | none =>
      rw [hc] at hv q; cases (show v = .non from hv)
      exact ⟨_, rfl, rfl, _, rfl, ifT rfl ⟨_, rfl, q _ _ (Same.refl _) rfl⟩⟩
    | some f =>
      rw [hc] at hv q
      obtain ⟨b, rfl, hb⟩ := (show FdV K H v f from hv)
      refine ⟨_, rfl, rfl, _, rfl, ifF rfl ⟨_, rfl, _, _, rfl, .inr ⟨_, hs, rfl⟩, rfl, _, rfl, ifF e32 ?_⟩⟩
      refine ⟨_, rfl, _, _, _, _, rfl, rfl, hb, rfl, _, rfl, _, _, _, _, rfl, rfl, hs, rfl, by show 2 ≤ sizeLine; decide, fun p hp => ?_⟩
      exact q _ _ (Same.new hp) ⟨p, rfl, SqT.of upd_same⟩
theorem ok_said_field__b (T : Txt K mg) : FnOk P w K mg base CX0 2 T.f_said_field T.d_said_field ["fixed", "entries", "line"] (fun vs H Q E => sp_said_field K vs H Q E ∨ sp_said_fieldZ K vs H Q E) := FnOk_or (ok_said_field T) (ok_said_field__z T)
theorem ok_Table_inserted (T : Txt K mg) : FnOk P w K mg base CX0 3 T.f_Table_inserted T.d_Table_inserted ["self", "instruction"] (sp_inserted K T.C_Table) := by
  refine T.F_Table_inserted.ok sc_Table_inserted (fun vs H Q E h => ?_) (fun cdv A outer s H vs Q E hr h => ?_)
  · obtain ⟨a, D, sv, v, F, r, w, t, i, rfl, _⟩ := h
    rfl
  · obtain ⟨a, D, sv, v, F, r, w, t, i, rfl, hT, ⟨ia, rfl, hs⟩, hne, hl12, q⟩ := h
    obtain ⟨dx, e⟩ := hT.ob
    obtain ⟨sa, ft, fx, rfl, g1, g2, g3⟩ := id hT.st
    obtain ⟨kvs, hD, hp⟩ := id hT.en
    have hTab : TabV K H ft D F t.es := ⟨⟨fx, g2, g3⟩, hT.en⟩
    refine ⟨_, (pss_cons (ps_set (i := 2) sc_Table_inserted.nd rfl (Or.inl rfl) (pe_ix ix_tup (pv 1) pe_int (fun _ _ => rfl)))
      (pss_cons (ps_if (pt_cmpR op_eq (pv 2) pe_str (nomark _)) (pss_one (ps_ret (pe_tup (pa_cons (pe_ix ix_tup (pv 1) pe_int (fun _ _ => rfl)) (pa_cons (pe_ix ix_tup (pv 1) pe_int (fun _ _ => rfl)) pa_nil))))) pss_nil)
      (pss_cons (ps_if (pt_cmpR op_eq (pv 2) pe_str (nomark _)) (pss_one (ps_ret (pe_dget1 (hu_of hr) (pe_fld (pv 0) rfl) (pe_op op_sub (pe_op op_sub (pe_fld (pv 0) rfl) pe_int) (pe_ix ix_tup (pv 1) pe_int (fun _ _ => rfl))) ⟨rfl, rfl, rfl, rfl⟩))) pss_nil)
      (pss_cons (ps_set (i := 3) sc_Table_inserted.nd rfl (Or.inl rfl) (pe_ix ix_tup (pv 1) pe_int (fun _ _ => rfl)))
      (pss_cons (ps_if (pt_cmpR op_eq (pv 2) pe_str (nomark _)) (pss_one (ps_set (i := 3) sc_Table_inserted.nd rfl (Or.inl rfl) (pe_op op_sub (pe_op op_sub (pe_fld (pv 0) rfl) pe_int) (pv 3)))) pss_nil)
      (pss_one (ps_ret (pe_call (ok_said_field__b T) (hr.mono (by decide)) rfl T.g_said_field T.F_said_field.kp T.b_said_field .nil pass0 (pa_cons (pe_ix ix_tup (pe_fld (pv 0) rfl) pe_int (fun _ _ => rfl)) (pa_cons (pe_fld (pv 0) rfl) (pa_cons (pe_tup (pa_cons (pv 2) (pa_cons (pv 3) (pa_cons (pe_ix ix_tup (pv 1) pe_int (fun _ _ => rfl)) pa_nil)))) pa_nil))))))))))), ?_⟩
    cases i with
    | limit n => exact absurd rfl (hne n)
    | new y x =>
      refine ⟨_, rfl, _, _, _, _, rfl, rfl, hs, rfl, _, rfl, rfl, _, rfl, ifT (by decide) ?_⟩
      refine ⟨_, rfl, _, _, _, _, rfl, rfl, hs, rfl, _, rfl, _, _, _, _, rfl, rfl, hs, rfl, by show 2 ≤ sizeLine; decide, fun p hp => ?_⟩
      exact q _ _ (Same.new hp) ⟨p, rfl, SqT.of upd_same⟩
    | again n =>
      refine ⟨_, rfl, _, _, _, _, rfl, rfl, hs, rfl, _, rfl, rfl, _, rfl, ifF (by decide) ⟨_, rfl, rfl, _, rfl, ifT (by decide) ?_⟩⟩
      refine ⟨_, rfl, _, _, _, _, _, rfl, e, T.cl_Table, T.nA_Table_kept, rfl, D, rfl, .inl ⟨kvs, .inl hD⟩, _, rfl, _, _, _, _, _, rfl, e, T.cl_Table, T.nA_Table_made, rfl, _, _, rfl, rfl, _, rfl, _, _, _, _, rfl, rfl, hs, rfl, _, _, rfl, rfl, _, DGet.k (k := Sum.inl ((t.made : Int) - 1 - (n : Int))) hD, ?_⟩
      rcases look_int (z := (t.made : Int) - 1 - (n : Int)) hp with ⟨h1, h2⟩ | ⟨v, f, h1, h2, h3⟩
      · rw [h1]; exact q _ _ (Same.refl _) (by show OFd K H _ (lookI _ _); rw [h2]; rfl)
      · rw [h1]; exact q _ _ (Same.refl _) (by show OFd K H _ (lookI _ _); rw [h2]; exact h3)
    | fixed n x =>
      refine ⟨_, rfl, _, _, _, _, rfl, rfl, hs, rfl, _, rfl, rfl, _, rfl, ifF (by decide) ⟨_, rfl, rfl, _, rfl, ifF (by decide) ?_⟩⟩
      refine ⟨_, rfl, _, _, _, _, rfl, rfl, hs, rfl, _, rfl, rfl, _, rfl, ifF (by decide) ?_⟩
      refine ⟨_, rfl, _, _, _, _, _, rfl, e, T.cl_Table, T.nA_Table_setting, rfl, _, _, _, _, rfl, rfl, g1, rfl, _, rfl, _, _, _, _, _, rfl, e, T.cl_Table, T.nA_Table_kept, rfl, _, rfl, _, rfl, _, rfl, _, _, _, _, rfl, rfl, hs, rfl, by show 3 ≤ sizeLine; decide, fun p hp => ?_⟩
      have sp := Same.new (o := .tup [.str "fixed", .int (n : Nat), .str x]) hp
      refine .inl ⟨ft, D, F, t.es, .ref p, .fix2 n x, rfl, hTab.same sp, ⟨p, rfl, SqT.of upd_same⟩, fun u H1 s1 hu => q u H1 (sp.trans s1) hu⟩
    | entry n x =>
      refine ⟨_, rfl, _, _, _, _, rfl, rfl, hs, rfl, _, rfl, rfl, _, rfl, ifF (by decide) ⟨_, rfl, rfl, _, rfl, ifF (by decide) ?_⟩⟩
      refine ⟨_, rfl, _, _, _, _, rfl, rfl, hs, rfl, _, rfl, rfl, _, rfl, ifT (by decide) ?_⟩
      refine ⟨_, rfl, _, _, _, _, _, rfl, e, T.cl_Table, T.nA_Table_made, rfl, _, _, rfl, rfl, _, rfl, _, _, rfl, rfl, ?_⟩
      refine ⟨_, rfl, _, _, _, _, _, rfl, e, T.cl_Table, T.nA_Table_setting, rfl, _, _, _, _, rfl, rfl, g1, rfl, _, rfl, _, _, _, _, _, rfl, e, T.cl_Table, T.nA_Table_kept, rfl, _, rfl, _, rfl, _, rfl, _, _, _, _, rfl, rfl, hs, rfl, by show 3 ≤ sizeLine; decide, fun p hp => ?_⟩
      have sp := Same.new (o := .tup [.str "entry", .int ((t.made : Int) - 1 - (n : Int)), .str x]) hp
      exact .inr ⟨ft, D, p, F, t.es, (t.made : Int) - 1 - (n : Int), x, rfl, hTab.same sp, SqT.of upd_same, fun u H1 s1 hu => q u H1 (sp.trans s1) hu⟩
theorem ok_Table_carry_out (T : Txt K mg) : FnOk P w K mg base CX0 4 T.f_Table_carry_out T.d_Table_carry_out ["self", "instruction"] (sp_carry_out K T.C_Table) := by
  refine T.F_Table_carry_out.ok sc_Table_carry_out (fun vs H Q E h => ?_) (fun cdv A outer s H vs Q E hr h => ?_)
  · obtain ⟨a, D, sv, v, F, r, w, t, i, rfl, _⟩ := h
    rfl
  · obtain ⟨a, D, sv, v, F, r, w, t, i, rfl, hT, ok, okS, hi, oki, q1, q2⟩ := h
    obtain ⟨dx, e⟩ := hT.ob
    refine ⟨_, (pss_cons (ps_if (pt_cmpR op_eq (pe_ix ix_tup (pv 1) pe_int (fun _ _ => rfl)) pe_str (nomark _)) (pss_one (ps_ret (pe_meth (pv 0) T.cl_Table T.m_Table_set_bound (ok_Table_set_bound T) (hr.mono (by decide)) T.b_Table_set_bound .nil pass0 (pa_cons (pe_ix ix_tup (pv 1) pe_int (fun _ _ => rfl)) pa_nil)))) pss_nil)
      (pss_cons (ps_set (i := 2) sc_Table_carry_out.nd rfl (Or.inl rfl) (pe_meth (pv 0) T.cl_Table T.m_Table_inserted (ok_Table_inserted T) (hr.mono (by decide)) T.b_Table_inserted .nil pass0 (pa_cons (pv 1) pa_nil)))
      (pss_cons (ps_if (PW.pt (pw_or (pt_cmpR op_isN (pv 2) pe_non (nomark _)) (pw_or1 (pt_not (pt_val (pe_meth (pv 0) T.cl_Table T.m_Table_has_room (ok_Table_has_room T) (hr.mono (by decide)) T.b_Table_has_room .nil pass0 (pa_cons (pv 2) pa_nil))))))) (pss_one (ps_ret pe_bl)) pss_nil)
      (pss_cons (ps_expr (pe_meth (pv 0) T.cl_Table T.m_Table_drop (ok_Table_drop T) (hr.mono (by decide)) T.b_Table_drop .nil pass0 (pa_cons (pe_meth (pv 0) T.cl_Table T.m_Table_leaving (ok_Table_leaving T) (hr.mono (by decide)) T.b_Table_leaving .nil pass0 (pa_cons (pe_fld (pv 0) rfl) (pa_cons (pe_call (ok_entry_size T) (hr.mono (by decide)) rfl T.g_entry_size T.F_entry_size.kp T.b_entry_size .nil pass0 (pa_cons (pv 2) pa_nil)) pa_nil))) pa_nil)))
      (pss_cons (ps_dput (hu_of hr) (pe_fld (pv 0) rfl) (pe_fld (pv 0) rfl) (pv 2) rfl)
      (pss_cons (ps_fldaug (pv 0) pe_int in_add)
      (pss_one (ps_ret pe_bl)))))))), ?_⟩
    by_cases hlim : ∃ n, i = .limit n
    · obtain ⟨n, rfl⟩ := hlim
      obtain ⟨ia, rfl, hs⟩ := id hi
      refine ⟨_, rfl, _, _, _, _, rfl, rfl, hs, rfl, rfl, _, rfl, ifT (by decide) ?_⟩
      refine ⟨_, rfl, a, dx, _, rfl, e, rfl, _, rfl, _, _, _, _, rfl, rfl, hs, rfl, a, D, sv, F, r, w, n, t, rfl, hT, ok, fun hn => ?_, fun hn H' k' hT' => ?_⟩
      · exact q1 (by show (if n ≤ r then _ else none) = none; rw [if_neg hn]) H (Same.refl _)
      · exact q2 _ (by show (if n ≤ r then _ else none) = _; rw [if_pos hn]) H' k' hT'
    have hne : ∀ n, i ≠ .limit n := fun n z => hlim ⟨n, z⟩
    obtain ⟨ia, rfl, hs⟩ := id hi
    have hstep := step_no (F := F) (r := r) (t := t) hne
    refine ⟨_, rfl, _, _, _, _, rfl, rfl, hs, kd_at i, rfl, _, rfl, ifF (kd_no hne) ?_⟩
    refine ⟨_, rfl, a, dx, _, rfl, e, rfl, _, rfl, a, D, sv, .ref ia, F, r, w, t, i, rfl, hT, hi, hne, okS.len, fun u H1 s1 hu => ?_⟩
    have e1 := s1 _ _ e
    have hT1 := hT.same s1
    cases hf : insF F t i with
    | none =>
      rw [hf] at hu hstep
      cases (show u = .non from hu)
      exact ⟨_, rfl, rfl, _, rfl, ifT rfl (q1 hstep H1 s1)⟩
    | some f =>
      rw [hf] at hu hstep
      have fok := insF_ok okS.fd ok oki hf
      have hfd : FdV K H1 u f := hu
      obtain ⟨fa, rfl, hfa⟩ := id hfd
      refine ⟨_, rfl, rfl, _, rfl, ifF rfl ?_⟩
      refine ⟨_, rfl, a, dx, _, rfl, e1, rfl, _, rfl, a, D, sv, .ref fa, F, r, w, t, f, rfl, hT1, hfd, fok, ⟨_, rfl, ?_⟩⟩
      cases hr' : roomT t f with
      | false =>
        simp only [hr', Bool.false_eq_true, if_false] at hstep
        exact ifT rfl (q1 hstep H1 s1)
      | true =>
        simp only [hr', if_true] at hstep
        have hz := fsz_ge fok
        have hbd := ok.bd
        have hrm := ok.rm
        refine ifF rfl ?_
        refine ⟨_, rfl, a, dx, _, rfl, e1, rfl, _, rfl, a, dx, _, rfl, e1, rfl, _, rfl, _, _, _, _, _, rfl, e1, T.cl_Table, T.nA_Table_bound, rfl, _, rfl, .ref fa, f, rfl, hfd, fok, a, D, sv, F, r, w, t.bound, fsz f, t, rfl, hT1, ok, by omega, by omega, fun L H2 hL s2 gL => ?_⟩
        have hT2 := hT1.same s2
        refine ⟨a, D, L, sv, F, r, w, t.bound, fsz f, t, rfl, hT2, ok, gL, fun H3 k3 hE3 => ?_⟩
        have e3 := k3 _ _ (by simpa using Ne.symm hT.ne) (s2 _ _ e1)
        obtain ⟨kv3, hD3, hp3⟩ := id hE3
        have hkl := p_len hp3
        have hkl2 := (keep_sub t.bound (fsz f) t.es).length_le
        have hl24 := ok.len
        refine ⟨_, rfl, _, rfl, _, _, _, _, _, rfl, e3, T.cl_Table, T.nA_Table_kept, rfl, _, rfl, _, _, _, _, _, rfl, e3, T.cl_Table, T.nA_Table_made, rfl, D, _, rfl, .inl ⟨kv3, nkey t.made, hD3, rfl, by rw [sizeLine_eq]; omega, rfl⟩, ?_⟩
        have e4 : upd H3 D (.dK (putK kv3 (nkey t.made) (.ref fa))) a = some (.ins T.C_Table dx (tfs sv t D)) := by rw [upd_ne (Ne.symm hT.ne)]; exact e3
        refine ⟨_, rfl, _, _, _, _, _, rfl, e4, T.cl_Table, T.nA_Table_made, rfl, _, _, rfl, rfl, _, _, e4, by show 4 < 1000; decide, ?_⟩
        have k13 : ButS [a, D] H H3 := (ButS.of (s1.trans s2)).trans (k3.mono (by simp))
        have kAll : ButS [a, D] H (upd (upd H3 D (.dK (putK kv3 (nkey t.made) (.ref fa)))) a (.ins T.C_Table dx (tfs sv (putT t f) D))) := (k13.trans (ButS.set (by simp))).trans (ButS.set (by simp))
        have t13 : TS H1 H3 := by
          have kk : ButS [a, D] H1 H3 := (ButS.of s2).trans (k3.mono (by simp))
          exact kk.ts hT1.nt
        have tD : TS H3 (upd H3 D (.dK (putK kv3 (nkey t.made) (.ref fa)))) := TS.at hD3 nt_dK
        have tA : TS (upd H3 D (.dK (putK kv3 (nkey t.made) (.ref fa)))) (upd (upd H3 D (.dK (putK kv3 (nkey t.made) (.ref fa)))) a (.ins T.C_Table dx (tfs sv (putT t f) D))) := TS.at e4 nt_ins
        have hne2 : putE (keepE t.bound (fsz f) t.es) t.made f = keepE t.bound (fsz f) t.es ++ [(t.made, f)] := putE_new (keep_ok (b := t.bound) (m := fsz f) ok).2.1
        have hput := put_get (n := t.made) hp3 (hfd.ts t13)
        rw [hne2] at hput
        refine q2 _ hstep _ kAll ⟨⟨dx, upd_same⟩, ⟨_, by rw [upd_ne hT.ne]; exact upd_same, pmap (fun _ _ z => (z.ts tD).ts tA) hput⟩, hT.st.ts (kAll.ts hT.nt)⟩
theorem ok_run_table (T : Txt K mg) : FnOk P w K mg base (CX P w) 7 T.f_run_table T.d_run_table ["setting", "instructions"] (sp_run_table K T.C_BadTable) := by
  refine T.F_run_table.okX sc_run_table (fun vs H Q E h => ?_) (fun cdv A outer s H vs Q E hr h => ?_)
  · obtain ⟨sv, L, F, r, w, xs, is, rfl, _⟩ := h
    rfl
  · obtain ⟨sv, L, F, r, w, xs, is, rfl, hS, okS, hL, hi, oki, hlen, q⟩ := h
    refine ⟨_, (pss_cons (ps_expr (pe_call (ok_check_setting T) (hr.mono (by decide)) rfl T.g_check_setting T.F_check_setting.kp T.b_check_setting .nil pass0 (pa_cons (pv 0) pa_nil)))
      (pss_cons (ps_if (PW.pt (pw_or (pt_not (pt_val (pe_callB call_isi rfl T.z_isinstance boot_isinstance (pa_cons (pv 1) (pa_cons (pe_bltn (v := .ty "list") rfl T.z_list boot_list rfl) pa_nil))))) (pw_or1 (pt_not (pt_val (pe_callB (cr_all rfl) rfl T.z_all boot_all (pa_cons (pe_lc (own := [("thing", 2)]) (g := (gName 2)) (tt := tYes)  rfl sc_run_table.nd (pi_list (pv 1)) (blkOk_by (own := [("thing", 2)]) (N := ["setting", "instructions", "thing", "table", "number", "instruction"]) (sc := defScope s_run_table) (by decide +kernel)) (fun _ _ _ _ _ => (pg_name (i := 2) sc_run_table.nd rfl (Or.inl rfl))) (fun _ _ _ _ _ => pts_nil) (fun _ _ _ _ _ => (pe_call (ok_is_instruction T) (hr.mono (by decide)) rfl T.g_is_instruction T.F_is_instruction.kp T.b_is_instruction .nil pass0 (pa_cons (pv 2) pa_nil)))) pa_nil))))))) (pss_one (ps_raise rfl (takes_of rfl rfl rfl rfl) (pmk_own PySem.F.excBase_ValueError T.P_NoValue.x_ T.P_NoValue.g T.P_NoValue.k_ (raises_own T.P_NoValue.b_ T.P_NoValue.t_) rfl))) pss_nil)
      (pss_cons (ps_set (i := 3) sc_run_table.nd rfl (Or.inl rfl) (pe_make T.M_Table (ok_Table_init T) (hr.mono (by decide)) rfl T.g_Table T.b_Table_init .nil pass0 (pa_cons (pv 0) pa_nil)))
      (pss_cons (ps_for (passes_of rfl) rfl (pi_enum rfl T.z_enumerate (pa_cons (pv 1) pa_nil)) (pg_tup rfl (pgs_cons (pg_name (i := 4) sc_run_table.nd rfl (Or.inl rfl)) (pgs_cons (pg_name (i := 5) sc_run_table.nd rfl (Or.inl rfl)) pgs_nil)))
        (pss_one (ps_if (pt_not (pt_val (pe_meth (pv 3) T.cl_Table T.m_Table_carry_out (ok_Table_carry_out T) (hr.mono (by decide)) T.b_Table_carry_out .nil pass0 (pa_cons (pv 5) pa_nil)))) (pss_one (ps_raiseE rfl T.E_BadTable (ok_BadTable_init T) (hr.mono (by decide)) T.b_BadTable_init pass0 (takes_of rfl rfl rfl rfl) rfl (pa_cons (pv 4) pa_nil))) pss_nil)))
      (pss_one (ps_ret (pe_tup (pa_cons (pe_fld (pv 3) rfl) (pa_cons (pe_fld (pv 3) rfl) pa_nil))))))))), ?_⟩
    have hxl := p_len hi
    refine ⟨_, rfl, sv, F, r, w, rfl, hS, okS, fun H1 s1 => ?_⟩
    have hL1 := s1.seq hL
    have k1 : Kind K H1 (.ref L) "list" := .lst hL1
    have hi1 := hi.ts (.of s1)
    refine ⟨_, rfl, _, _, _, _, _, rfl, .ty _, k1.ty, k1.kit, _, rfl, ifF rfl ?_⟩
    refine ⟨_, rfl, L, rfl, ⟨xs, hL1⟩, fun C hC => ?_⟩
    refine lc_map (walk_list (xs := xs)) (fun _ => V.bl true) (by omega) hC (fun H' s' => s'.seq hL1) ?_ ?_
    · rintro j x H' H'' Q' Z hj s' ⟨rfl, hx⟩ q'
      obtain ⟨i, hi2, hiv⟩ := p_at hi1 hx
      exact ⟨rfl, yesI ⟨_, rfl, x, i, rfl, hiv.ts (.of s'), oki i (List.mem_of_getElem? hi2), fun H4 s4 => q' H4 s4⟩⟩
    intro H2 s2 hC2
    refine ⟨C, (List.range xs.length).map fun _ => true, rfl, .inl (.inl (by rw [hC2, List.map_map]; rfl)), _, rfl, ?_⟩
    rw [List.all_map, show (List.range xs.length).all (id ∘ fun _ => true) = true from List.all_eq_true.mpr fun _ _ => rfl]
    refine ifF rfl ?_
    have s02 := s1.trans s2
    refine ⟨_, rfl, fun x dx hx hdx hne => ?_⟩
    have sN : Same H2 (upd (upd H2 dx (.own x)) x (.ins T.C_Table dx [])) := (Same.new hdx).trans (Same.new (by rw [upd_ne (Ne.symm hne)]; exact hx))
    refine ⟨x, T.C_Table, dx, sv, F, r, w, rfl, upd_same, T.cl_Table, T.nA_Table_setting, T.nA_Table_bound, T.nA_Table_made, T.nA_Table_kept, hS.ts (.of (s02.trans sN)), fun D H3 hDx hD ho gx gD => ⟨rfl, ?_⟩⟩
    have hD2 : H2 D = none := by
      rw [upd_ne hDx] at hD
      by_cases z : D = dx
      · subst z; rw [upd_same] at hD; cases hD
      · rw [upd_ne z] at hD; exact hD
    have s23 : Same H2 H3 := fun b o eb => by
      have n1 : b ≠ x := ne_of_none eb hx
      have n2 : b ≠ D := ne_of_none eb hD2
      rw [ho b n1 n2]; exact sN b o eb
    have s03 := s02.trans s23
    have hT3 : TblV K T.C_Table H3 x D sv F r w (tb0 r) := ⟨⟨dx, gx⟩, ⟨[], gD, .nil⟩, hS.ts (.of s03)⟩
    have hxH : H x = none := s02.free hx
    have hDH : H D = none := s02.free hD2
    refine ⟨_, rfl, L, xs, rfl, s03.seq hL, ?_⟩
    refine for_it (walk_enum (K := K) (a := L) (xs := xs)) (fun j σ H' => ∃ (v2 v4 v5 : Option V) (t : Tb), σ = [some sv, some (.ref L), v2, some (.ref x), v4, v5] ∧ Same H H' ∧ TblV K T.C_Table H' x D sv F r w t ∧ TbOk r t ∧ runT F r (tb0 r) 0 is = runT F r t j (is.drop j)) ⟨_, _, _, tb0 r, rfl, s03, hT3, tb0_ok okS.r, rfl⟩ (fun j σ H' _ ⟨_, _, _, _, _, s', _⟩ => s'.seq hL) ?_ ?_
    · rintro j y σ H4 H4' hj ⟨v2, v4, v5, t, rfl, s4, hT4, ok4, hrun⟩ ⟨tp, z1, z2, rfl, htp, rfl, e1, e2⟩
      cases e1
      obtain ⟨i, hi2, hiv⟩ := p_at hi e2
      have oki2 := oki i (List.mem_of_getElem? hi2)
      have st := Same.new (o := .tup [.int (j : Nat), z2]) htp
      have hT5 := hT4.same st
      have s5 := s4.trans st
      refine ⟨tp, _, rfl, SqT.of upd_same, rfl, _, _, rfl, _, _, rfl, rfl, ?_⟩
      obtain ⟨dx5, e5⟩ := hT5.ob
      have hdr : is.drop j = i :: is.drop (j + 1) := by
        obtain ⟨hlt, he⟩ := List.getElem?_eq_some_iff.mp hi2
        rw [List.drop_eq_getElem_cons hlt, he]
      have hj1000 : j < 1000 := by have := (List.getElem?_eq_some_iff.mp hi2).1; omega
      refine ⟨_, rfl, x, dx5, _, rfl, e5, rfl, _, rfl, x, D, sv, z2, F, r, w, t, i, rfl, hT5, ok4, okS, hiv.ts (.of s5), oki2, fun hno H6 s6 => ⟨_, rfl, ifT rfl ?_⟩, fun t' hyes H6 k6 hT6 => ⟨_, rfl, ifF rfl ?_⟩⟩
      · rw [hdr, runT, hno] at hrun
        rw [hrun] at q
        refine ⟨_, rfl, err_go (k := (j : Nat)) (by have h3 : (1000 : Nat) < 2 ^ 1000 := by decide +kernel
                                                    rw [Int.natAbs_natCast]; omega) fun d H7 s7 _ h7 => ?_⟩
        exact q d H7 ((s5.trans s6).trans s7) h7
      · rw [hdr, runT, hyes] at hrun
        refine ⟨_, _, _, t', rfl, fun b o eb => ?_, hT6, ok4.step okS.fd oki2 hyes, hrun⟩
        have n1 : b ≠ x := ne_of_none eb hxH
        have n2 : b ≠ D := ne_of_none eb hDH
        exact k6 b o (by simp [n1, n2]) (s5 b o eb)
    · rintro σ H4 ⟨v2, v4, v5, t, rfl, s4, hT4, ok4, hrun⟩
      rw [List.drop_of_length_le (by omega), runT] at hrun
      rw [hrun] at q
      obtain ⟨dx4, e4⟩ := hT4.ob
      refine ⟨_, rfl, _, _, _, _, _, rfl, e4, T.cl_Table, T.nA_Table_made, rfl, _, rfl, _, _, _, _, _, rfl, e4, T.cl_Table, T.nA_Table_kept, rfl, by show 2 ≤ sizeLine; decide, fun p hp => ?_⟩
      exact q D p _ hDH (s4.free hp) (s4.trans (Same.new hp)) upd_same (hT4.en.same (Same.new hp))

theorem ok_law_open (T : Txt K mg) : FnOk P w K mg base CX0 1 T.f_law_open T.d_law_open ["script"] (sp_law_open K) := by
  refine T.F_law_open.ok sc_law_open (fun vs H Q E h => ?_) (fun cdv A outer s H vs Q E hr h => ?_)
  · obtain ⟨a, ns, rfl, _⟩ := h
    rfl
  · obtain ⟨a, ns, rfl, hS, hl, q⟩ := h
    refine ⟨_, (pss_cons (ps_set (i := 1) sc_law_open.nd rfl (Or.inl rfl) (pe_callTy call_list_of rfl T.z_list boot_list (pa_cons (pe_slice sl_list (pv 0) po_none (po_some pe_int)) pa_nil)))
      (pss_cons (ps_for PassesOwn.never rfl (pi_enum rfl T.z_enumerate (pa_cons (pe_slice sl_list (pv 0) (po_some pe_int) (po_some pe_int)) pa_nil)) (pg_tup rfl (pgs_cons (pg_name (i := 2) sc_law_open.nd rfl (Or.inl rfl)) (pgs_cons (pg_name (i := 3) sc_law_open.nd rfl (Or.inl rfl)) pgs_nil)))
        (pss_one (ps_asg (pe_op op_add (pe_ix ix_list (pv 1) (pe_op op_mod (pv 2) pe_int) (fun _ _ => rfl)) (pv 3)) (pg_sub (pv 1) (pe_op op_mod (pv 2) pe_int) set_list))))
      (pss_one (ps_ret (pe_lst (pa_cons (pv 1) (pa_cons pe_int (pa_cons pe_int pa_nil)))))))), ?_⟩
    refine ⟨_, rfl, _, rfl, a, _, rfl, hS, fun p1 hp1 => ?_⟩
    refine ⟨p1, _, rfl, .inl (SqL.of upd_same), fun c hc => ?_⟩
    have s1 : Same H (upd (upd H p1 (.lst (cutV (ns.map V.int) none (some 12)))) c (.lst (cutV (ns.map V.int) none (some 12)))) := (Same.new hp1).trans (Same.new hc)
    have hcc : H c = none := (Same.new hp1).free hc
    refine ⟨_, rfl, _, rfl, _, rfl, a, _, rfl, s1.seq hS, fun p2 hp2 => ?_⟩
    have npc : c ≠ p2 := ne_of_none upd_same hp2
    have s2 := s1.trans (Same.new (o := .lst (cutV (ns.map V.int) (some 12) (some 63))) hp2)
    refine ⟨p2, _, rfl, SqL.of upd_same, ?_⟩
    generalize hH2 : upd (upd (upd H p1 (.lst (cutV (ns.map V.int) none (some 12)))) c (.lst (cutV (ns.map V.int) none (some 12)))) p2 (.lst (cutV (ns.map V.int) (some 12) (some 63))) = H2 at s2 ⊢
    have gc : H2 c = some (.lst ((ns.take 12).map V.int)) := by
      rw [← hH2, upd_ne npc, upd_same]
      have := cut_to (ns.map V.int) 12
      rw [List.map_take]
      exact congrArg (fun l => some (HO.lst l)) this
    have g2 : H2 p2 = some (.lst (cutV (ns.map V.int) (some 12) (some 63))) := by rw [← hH2, upd_same]
    have el : (cutV (ns.map V.int) (some 12) (some 63)) = ((ns.drop 12).take 51).map V.int := by
      have := cut_mid (ns.map V.int) 12 63
      rw [List.map_take, List.map_drop]
      exact this
    rw [el] at g2
    clear hH2 el
    refine for_it (walk_enum (K := K) (a := p2) (xs := ((ns.drop 12).take 51).map V.int)) (fun i σ H' => ∃ (cs : List Int) (x y : Option V), σ = [some (.ref a), some (.ref c), x, y] ∧ But c H2 H' ∧ H' c = some (.lst (cs.map V.int)) ∧ cs.length = (ns.take 12).length)
      ⟨ns.take 12, none, none, rfl, But.refl _ _, gc, rfl⟩ (fun i σ H' _ ⟨_, _, _, _, b, _⟩ => b.seq (Ne.symm npc) (SqL.of g2)) ?_ ?_
    · rintro i x σ H' H'' hi ⟨cs, v1, v2, rfl, b, hcs, hlen⟩ ⟨t, z1, z2, rfl, ht, rfl, e1, e2⟩
      cases e1
      have e3 : ∃ z : Int, z2 = .int z := by
        replace e2 : (((ns.drop 12).take 51).map V.int)[i]? = some z2 := e2
        rw [List.getElem?_map] at e2
        cases e4 : ((ns.drop 12).take 51)[i]? with
        | none => rw [e4] at e2; cases e2
        | some z => rw [e4] at e2; exact ⟨z, (Option.some.inj e2).symm⟩
      obtain ⟨z, rfl⟩ := e3
      have h12 : cs.length = 12 := by
        rw [hlen]
        rw [List.length_map, List.length_take, List.length_drop] at hi
        rw [List.length_take]
        omega
      have hm : i % 12 < cs.length := by omega
      have nct : c ≠ t := ne_of_none hcs ht
      have hcs' : upd H' t (.tup [.int (i : Nat), .int z]) c = some (.lst (cs.map V.int)) := by rw [upd_ne nct]; exact hcs
      refine ⟨t, _, rfl, SqT.of upd_same, rfl, _, _, rfl, _, _, rfl, rfl, ?_⟩
      have em : ((i : Nat) : Int) % 12 = ((i % 12 : Nat) : Int) := by omega
      have ea : atI (cs.map V.int) (((i : Nat) : Int) % 12) = some (.int cs[i % 12]) := by
        rw [em]
        exact atI_nat (by rw [List.getElem?_map, List.getElem?_eq_getElem hm]; rfl)
      refine ⟨_, rfl, _, rfl, _, _, rfl, rfl, (by show (0 : Int) < 12; decide), c, _, _, _, rfl, rfl, SqL.of hcs', ea, _, rfl, _, _, rfl, rfl, ?_⟩
      refine ⟨_, rfl, _, rfl, _, _, rfl, rfl, (by show (0 : Int) < 12; decide), c, _, _, i % 12, rfl, rfl, hcs', ?_, ?_⟩
      · show ixN (cs.map V.int).length (((i : Nat) : Int) % 12) = _
        rw [em]
        exact Evl.ixN_nat (by rw [List.length_map]; exact hm)
      · refine ⟨cs.set (i % 12) (cs[i % 12] + z), _, _, rfl, (b.trans (But.new ht)).trans But.set, ?_, by rw [List.length_set]; exact hlen⟩
        rw [upd_same, ← List.map_set]
    · rintro σ H' ⟨cs, v1, v2, rfl, b, hcs, hlen⟩
      refine ⟨_, rfl, (by show 3 ≤ sizeLine; decide), fun p hp => ?_⟩
      have s3 : Same H H' := fun u o e => b u o (ne_of_none e hcc) (s2 u o e)
      refine q p c _ (s3.free hp) (s3.put (s3.free hp)) ⟨0, 0, cs, upd_same, ?_, ne_of_none hcs hp, ?_, Nat.le_refl _⟩
      · rw [upd_ne (ne_of_none hcs hp)]; exact hcs
      · rw [hlen, List.length_take]; omega
theorem ok_law_spread (T : Txt K mg) : FnOk P w K mg base CX0 1 T.f_law_spread T.d_law_spread ["cell", "at"] sp_law_spread := by
  refine T.F_law_spread.ok sc_law_spread (fun vs H Q E h => ?_) (fun cdv A outer s H vs Q E hr h => ?_)
  · obtain ⟨c, a, rfl, _⟩ := h
    rfl
  · obtain ⟨c, a, rfl, ha, q⟩ := h
    refine ⟨_, (pss_cons (ps_if (pt_cmpR op_ge (pv 0) (pe_op op_pow pe_int pe_int) (nomark _)) (pss_one (ps_ret (pv 0))) pss_nil)
      (pss_cons (ps_set (i := 2) sc_law_spread.nd rfl (Or.inl rfl) (pe_lst (pa_cons pe_int (pa_cons pe_int (pa_cons pe_int (pa_cons pe_int (pa_cons pe_int (pa_cons pe_int (pa_cons pe_int (pa_cons pe_int pa_nil))))))))))
      (pss_cons (ps_set (i := 2) sc_law_spread.nd rfl (Or.inl rfl) (pe_op op_cat (pv 2) (pe_lst (pa_cons pe_int (pa_cons pe_int (pa_cons pe_int (pa_cons pe_int (pa_cons pe_int pa_nil))))))))
      (Evl.pss_cut (ps_set (i := 3) sc_law_spread.nd rfl (Or.inl rfl) (pe_op op_mod (pe_op op_pow (pe_op op_add (pe_op op_add (pe_op op_mul (pe_op op_mod (pv 0) pe_int) (pe_op op_add (pe_op op_mul pe_int (pv 1)) pe_int)) (pe_op op_mul (pv 1) pe_int)) pe_int) pe_int) (pe_ix ix_list (pv 2) (pe_op op_mod (pv 1) pe_int) (fun _ _ => rfl))))
      (Evl.pss_cut (ps_set (i := 4) sc_law_spread.nd rfl (Or.inl rfl) (pe_op op_mod (pe_op op_pow (pe_op op_add (pe_op op_add (pe_op op_mul (pv 3) (pe_op op_add (pv 1) pe_int)) (pe_op op_mod (pv 0) pe_int)) pe_int) pe_int) (pe_ix ix_list (pv 2) (pe_op op_mod (pe_op op_add (pv 1) pe_int) pe_int) (fun _ _ => rfl))))
      (Evl.pss_cut (ps_set (i := 5) sc_law_spread.nd rfl (Or.inl rfl) (pe_op op_mod (pe_op op_pow (pe_op op_add (pe_op op_add (pv 4) (pe_op op_mod (pv 3) pe_int)) (pv 1)) pe_int) (pe_ix ix_list (pv 2) (pe_op op_mod (pe_op op_add (pv 1) pe_int) pe_int) (fun _ _ => rfl))))
      (pss_one (ps_ret (pe_op op_add (pe_op op_mul (pe_op op_add (pe_op op_mul (pv 3) pe_int) (pv 4)) pe_int) (pv 5)))))))))), ?_⟩
    refine ⟨_, rfl, _, _, rfl, rfl, ⟨by decide, by decide, by decide⟩, _, _, rfl, rfl, _, rfl, ?_⟩
    refine ifb (fun _ => ?_) (fun _ => ?_)
    · exact ⟨_, rfl, q c H (Same.refl _)⟩
    refine ⟨by show 8 ≤ sizeLine; decide, fun p1 hp1 => ?_⟩
    refine ⟨_, rfl, by show 5 ≤ sizeLine; decide, fun p2 hp2 => ?_⟩
    have n12 : p1 ≠ p2 := ne_of_none upd_same hp2
    refine ⟨p1, p2, _, _, rfl, rfl, by rw [upd_ne n12]; exact upd_same, upd_same, by show 13 ≤ sizeLine; decide, fun p3 hp3 => ?_⟩
    have s3 : Same H _ := ((Same.new hp1).trans (Same.new hp2)).trans (Same.new (o := .lst (primes.map V.int)) hp3)
    have g3 : upd (upd (upd H p1 (.lst [.int 2147483629, .int 2147483587, .int 2147483579, .int 2147483563, .int 2147483549, .int 2147483543, .int 2147483497, .int 2147483489])) p2 (.lst [.int 2147483477, .int 2147483423, .int 2147483399, .int 2147483353, .int 2147483323])) p3 (.lst (primes.map V.int)) p3 = some (.lst (primes.map V.int)) := upd_same
    have hm1 : 0 ≤ c % 1000000007 ∧ c % 1000000007 < 1000000007 := ⟨Int.emod_nonneg _ (by decide), Int.emod_lt_of_pos _ (by decide)⟩
    have hm2 : 0 ≤ c % 65537 ∧ c % 65537 < 65537 := ⟨Int.emod_nonneg _ (by decide), Int.emod_lt_of_pos _ (by decide)⟩
    have ix : ∀ k : Nat, ∃ r : Int, atI (primes.map V.int) (((k : Nat) : Int) % 13) = some (.int r) ∧ 0 < r ∧ r < 2147483648 := fun k => primes_at (Int.emod_nonneg _ (by decide)) (Int.emod_lt_of_pos _ (by decide))
    obtain ⟨r1, i1, r1p, r1b⟩ := ix a
    obtain ⟨r2, i2, r2p, r2b⟩ := ix (a + 5)
    obtain ⟨r3, i3, r3p, r3b⟩ := ix (a + 7)
    rw [Int.natCast_add] at i2 i3
    have e18 : (10 : Int) ^ 18 = 1000000000000000000 := by decide
    have b1 := mul_bd (A := 1000000007) (B := 2069069) hm1.1 (Int.le_of_lt hm1.2) (b := 2 * (a : Int) + 69069) (by omega) (by omega)
    refine ⟨fun σ' H' => ∃ one : Int, σ' = [some (.int c), some (.int (a : Nat)), some (.ref p3), some (.int one), none, none] ∧ (0 ≤ one ∧ one < 2147483648) ∧ H' p3 = some (.lst (primes.map V.int)) ∧ Same H H', ?_, ?_⟩
    · refine ⟨_, rfl, _, _, rfl, rfl, (by show (0 : Int) < 1000000007; decide), _, rfl, _, _, rfl, rfl, .inl ⟨by decide, by decide⟩, _, _, rfl, rfl, _, _, rfl, rfl, mul64 hm1.1 (by omega),
        _, rfl, _, _, rfl, rfl, .inr ⟨by decide, by decide⟩, _, _, rfl, rfl, _, _, rfl, rfl, _, _, rfl, rfl, ⟨by decide, by decide, pow_small (by omega) (by omega)⟩,
        _, rfl, _, rfl, _, _, rfl, rfl, (by show (0 : Int) < 13; decide), p3, _, _, _, rfl, rfl, SqL.of g3, i1, _, _, rfl, rfl, r1p, ?_⟩
      exact ⟨_, rfl, ⟨Int.emod_nonneg _ (by omega), Int.lt_trans (Int.emod_lt_of_pos _ r1p) r1b⟩, g3, s3⟩
    · rintro σ' H' ⟨one, rfl, hone, g3, s3⟩
      have b2 := mul_bd (A := 2147483648) (B := 1000003) hone.1 (Int.le_of_lt hone.2) (b := (a : Int) + 3) (by omega) (by omega)
      refine ⟨fun σ' H' => ∃ two : Int, σ' = [some (.int c), some (.int (a : Nat)), some (.ref p3), some (.int one), some (.int two), none] ∧ (0 ≤ two ∧ two < 2147483648) ∧ H' p3 = some (.lst (primes.map V.int)) ∧ Same H H', ?_, ?_⟩
      · refine ⟨_, rfl, _, rfl, _, _, rfl, rfl, _, _, rfl, rfl, mul64 hone.1 (by omega), _, rfl, _, _, rfl, rfl, (by show (0 : Int) < 65537; decide), _, _, rfl, rfl, _, _, rfl, rfl, _, _, rfl, rfl, ⟨by decide, by decide, pow_small (by omega) (by omega)⟩,
          _, rfl, _, rfl, _, _, rfl, rfl, _, _, rfl, rfl, (by show (0 : Int) < 13; decide), p3, _, _, _, rfl, rfl, SqL.of g3, i2, _, _, rfl, rfl, r2p, ?_⟩
        exact ⟨_, rfl, ⟨Int.emod_nonneg _ (by omega), Int.lt_trans (Int.emod_lt_of_pos _ r2p) r2b⟩, g3, s3⟩
      · rintro σ' H' ⟨two, rfl, htwo, g3, s3⟩
        have hm3 : 0 ≤ one % 1009 ∧ one % 1009 < 1009 := ⟨Int.emod_nonneg _ (by decide), Int.emod_lt_of_pos _ (by decide)⟩
        refine ⟨fun σ' H' => ∃ three : Int, σ' = [some (.int c), some (.int (a : Nat)), some (.ref p3), some (.int one), some (.int two), some (.int three)] ∧ Same H H', ?_, ?_⟩
        · refine ⟨_, rfl, _, rfl, _, _, rfl, rfl, (by show (0 : Int) < 1009; decide), _, _, rfl, rfl, _, rfl, _, _, rfl, rfl, _, _, rfl, rfl, ⟨by decide, by decide, pow_small (by omega) (by omega)⟩,
            _, rfl, _, rfl, _, _, rfl, rfl, _, _, rfl, rfl, (by show (0 : Int) < 13; decide), p3, _, _, _, rfl, rfl, SqL.of g3, i3, _, _, rfl, rfl, r3p, ?_⟩
          exact ⟨_, rfl, s3⟩
        · rintro σ' H' ⟨three, rfl, s3⟩
          refine ⟨_, rfl, _, _, rfl, rfl, .inr ⟨by decide, by decide⟩, _, rfl, _, _, rfl, rfl, _, _, rfl, rfl, .inr ⟨by decide, by decide⟩, _, rfl, _, _, rfl, rfl, ?_⟩
          exact q _ H' s3

theorem ok_law_take (T : Txt K mg) : FnOk P w K mg base CX0 2 T.f_law_take T.d_law_take ["pen", "many"] sp_law_take := by
  refine T.F_law_take.ok sc_law_take (fun vs H Q E h => ?_) (fun cdv A outer s H vs Q E hr h => ?_)
  · obtain ⟨p, c, n, k, rfl, _⟩ := h
    rfl
  · obtain ⟨p, c, n, k, rfl, ⟨a, acc, ns, gp, gc, ncp, hns, han⟩, hk0, hk, hn, q⟩ := h
    refine ⟨_, (Evl.pss_cut (ps_if (pt_cmpR op_lt (pe_ix ix_list (pv 0) pe_int (fun _ _ => rfl)) (pv 1) (nomark _)) (pss_cons (ps_set (i := 2) sc_law_take.nd rfl (Or.inl rfl) (pe_ix ix_list (pv 0) pe_int (fun _ _ => rfl)))
      (pss_cons (ps_set (i := 3) sc_law_take.nd rfl (Or.inl rfl) pe_int)
      (Evl.pss_cut (ps_if (pt_cmpR op_lt (pv 2) (pe_callB call_len rfl T.z_len boot_len (pa_cons (pe_ix ix_list (pv 0) pe_int (fun _ _ => rfl)) pa_nil)) (nomark _)) (pss_one (ps_set (i := 3) sc_law_take.nd rfl (Or.inl rfl) (pe_ix ix_list (pe_ix ix_list (pv 0) pe_int (fun _ _ => rfl)) (pv 2) (fun _ _ => rfl)))) (pss_one (ps_if (pt_cmpR op_gt (pe_callB call_len rfl T.z_len boot_len (pa_cons (pe_ix ix_list (pv 0) pe_int (fun _ _ => rfl)) pa_nil)) pe_int (nomark _)) (pss_one (ps_set (i := 3) sc_law_take.nd rfl (Or.inl rfl) (pe_op op_mod (pe_ix ix_list (pe_ix ix_list (pv 0) pe_int (fun _ _ => rfl)) (pe_op op_mod (pe_op op_add (pe_op op_mul (pv 2) pe_int) pe_int) (pe_callB call_len rfl T.z_len boot_len (pa_cons (pe_ix ix_list (pv 0) pe_int (fun _ _ => rfl)) pa_nil))) (fun _ _ => rfl)) (pe_op op_add (pe_op op_pow pe_int pe_int) (pv 2))))) pss_nil)))
      (pss_cons (ps_asg (pe_op op_add (pv 2) pe_int) (pg_sub (pv 0) pe_int set_list))
      (pss_one (ps_asg (pe_call (ok_law_spread T) (hr.mono (by decide)) rfl T.g_law_spread T.F_law_spread.kp T.b_law_spread .nil pass0 (pa_cons (pv 3) (pa_cons (pv 2) pa_nil))) (pg_sub (pv 0) pe_int set_list))))))) pss_nil)
      (pss_cons (ps_set (i := 4) sc_law_take.nd rfl (Or.inl rfl) (pe_op op_mod (pe_ix ix_list (pv 0) pe_int (fun _ _ => rfl)) (pv 1)))
      (pss_cons (ps_asg (pe_op op_fdiv (pe_ix ix_list (pv 0) pe_int (fun _ _ => rfl)) (pv 1)) (pg_sub (pv 0) pe_int set_list))
      (pss_one (ps_ret (pv 4)))))), ?_⟩
    refine ⟨fun σ' H' => ∃ (a' : Nat) (acc' : Int) (x y : Option V), σ' = [some (.ref p), some (.int k), x, y, none] ∧ But p H H' ∧ H' p = some (.lst [.ref c, .int (a' : Nat), .int acc']) ∧ H' c = some (.lst (ns.map V.int)) ∧ a' ≤ n + 1, ?_, ?_⟩
    · refine ⟨_, rfl, p, _, _, _, rfl, rfl, SqL.of gp, rfl, _, rfl, _, _, rfl, rfl, _, rfl, ?_⟩
      refine ifb (fun _ => ?_) (fun _ => ?_)
      · refine ⟨_, rfl, p, _, _, _, rfl, rfl, SqL.of gp, rfl, ?_⟩
        refine ⟨fun σ' H' => ∃ z : Int, σ' = [some (.ref p), some (.int k), some (.int (a : Nat)), some (.int z), none] ∧ H = H', ?_, ?_⟩
        · refine ⟨_, rfl, _, rfl, p, _, _, _, rfl, rfl, SqL.of gp, rfl, _, _, rfl, .inl ⟨_, SqL.of gc, rfl⟩, _, _, rfl, rfl, _, rfl, ?_⟩
          rw [List.length_map]
          by_cases c1 : a < ns.length
          · refine ifT (decide_eq_true (by omega)) ?_
            refine ⟨_, rfl, p, _, _, _, rfl, rfl, SqL.of gp, rfl, _, rfl, c, _, _, _, rfl, rfl, SqL.of gc, atI_nat (j := a) (v := .int ns[a]) (by rw [List.getElem?_map, List.getElem?_eq_getElem c1]; rfl), ?_⟩
            exact ⟨_, rfl, rfl⟩
          · refine ifF (decide_eq_false (by omega)) ?_
            refine ⟨_, rfl, p, _, _, _, rfl, rfl, SqL.of gp, rfl, _, _, rfl, .inl ⟨_, SqL.of gc, rfl⟩, _, _, rfl, rfl, _, rfl, ?_⟩
            rw [List.length_map]
            by_cases c2 : 0 < ns.length
            · refine ifT (decide_eq_true (by omega)) ?_
              have hm : (((a : Nat) : Int) * 5 + 3) % ((ns.length : Nat) : Int) = (((a * 5 + 3) % ns.length : Nat) : Int) := by
                rw [Int.natCast_emod]; rfl
              have hlt : (a * 5 + 3) % ns.length < ns.length := Nat.mod_lt _ c2
              obtain ⟨w0, ea⟩ : ∃ w0 : Int, atI (ns.map V.int) ((((a : Nat) : Int) * 5 + 3) % (((ns.map V.int).length : Nat) : Int)) = some (.int w0) := by
                rw [List.length_map, hm]
                exact ⟨ns[(a * 5 + 3) % ns.length], atI_nat (by rw [List.getElem?_map, List.getElem?_eq_getElem hlt]; rfl)⟩
              have pos : (0 : Int) < (((ns.map V.int).length : Nat) : Int) := by rw [List.length_map]; omega
              have e17 : (10 : Int) ^ (17 : Int).toNat = 100000000000000000 := by decide
              refine ⟨_, rfl, p, _, _, _, rfl, rfl, SqL.of gp, rfl, _, rfl, _, _, rfl, rfl, .inr ⟨by decide, by decide⟩, _, _, rfl, rfl, _, rfl, p, _, _, _, rfl, rfl, SqL.of gp, rfl, _, _, rfl, .inl ⟨_, SqL.of gc, rfl⟩, _, _, rfl, rfl, pos,
                c, _, _, _, rfl, rfl, SqL.of gc, ea, _, _, rfl, rfl, ⟨by decide, by decide, by decide⟩, _, rfl, _, _, rfl, rfl, _, _, rfl, rfl, ?_, ?_⟩
              · show (0 : Int) < (10 : Int) ^ (17 : Int).toNat + (a : Int)
                rw [e17]
                omega
              · exact ⟨_, rfl, rfl⟩
            · refine ifF (decide_eq_false (by omega)) ?_
              exact ⟨_, rfl, rfl⟩
        · rintro σ' H' ⟨z, rfl, rfl⟩
          refine ⟨_, rfl, _, _, rfl, rfl, _, rfl, p, _, _, 1, rfl, rfl, gp, rfl, ?_⟩
          refine ⟨_, rfl, _, rfl, z, a, rfl, by omega, fun r H' s1 => ?_⟩
          have g1 : H' p = some (.lst [.ref c, .int ((a + 1 : Nat) : Int), .int acc]) := s1 _ _ upd_same
          have gc1 : H' c = some (.lst (ns.map V.int)) := s1 _ _ (by rw [upd_ne ncp]; exact gc)
          refine ⟨_, rfl, p, _, _, 2, rfl, rfl, g1, rfl, ?_⟩
          exact ⟨a + 1, r, _, _, rfl, (But.set.trans (But.of s1)).trans But.set, upd_same, by rw [upd_ne ncp]; exact gc1, by omega⟩
      · exact ⟨a, acc, none, none, rfl, But.refl _ _, gp, gc, by omega⟩
    · rintro σ' H' ⟨a', acc', x, y, rfl, b, gp', gc', ha'⟩
      refine ⟨_, rfl, p, _, _, _, rfl, rfl, SqL.of gp', rfl, _, rfl, _, _, rfl, rfl, hk0, ?_⟩
      refine ⟨_, rfl, p, _, _, _, rfl, rfl, SqL.of gp', rfl, _, rfl, _, _, rfl, rfl, ⟨hk0, hk⟩, _, rfl, p, _, _, 2, rfl, rfl, gp', rfl, ?_⟩
      refine ⟨_, rfl, ?_⟩
      exact q _ _ (Int.emod_nonneg _ (by omega)) (Int.emod_lt_of_pos _ hk0) ⟨⟨a', _, ns, upd_same, by rw [upd_ne ncp]; exact gc', ncp, hns, ha'⟩, b.trans But.set⟩
theorem ok_law_u_pick (T : Txt K mg) : FnOk P w K mg base CX0 3 T.f_law_u_pick T.d_law_u_pick ["pen", "some"] (sp_law_one_of K) := by
  refine T.F_law_u_pick.ok sc_law_u_pick (fun vs H Q E h => ?_) (fun cdv A outer s H vs Q E hr h => ?_)
  · obtain ⟨p, c, a, n, xs, rfl, _⟩ := h
    rfl
  · obtain ⟨p, c, a, n, xs, rfl, hp, hS, nap, hne, hz, hn, q⟩ := h
    refine ⟨_, (pss_one (ps_ret (pe_ix ix_list (pv 1) (pe_call (ok_law_take T) (hr.mono (by decide)) rfl T.g_law_take T.F_law_take.kp T.b_law_take .nil pass0 (pa_cons (pv 0) (pa_cons (pe_callB call_len rfl T.z_len boot_len (pa_cons (pv 1) pa_nil)) pa_nil))) (fun _ _ => rfl)))), ?_⟩
    have hpos : 0 < xs.length := List.length_pos_iff.mpr hne
    refine ⟨_, rfl, _, rfl, _, rfl, _, _, rfl, .inl ⟨_, hS, rfl⟩, ?_⟩
    refine ⟨p, c, n, xs.length, rfl, hp, by omega, by omega, hn, fun r H' h0 h1 d => ?_⟩
    have hr' : r.toNat < xs.length := by omega
    have er : r = ((r.toNat : Nat) : Int) := by omega
    refine ⟨a, xs, r, xs[r.toNat], rfl, rfl, d.but.seq nap hS, ?_, ?_⟩
    · exact at_of er (List.getElem?_eq_getElem hr')
    · exact q _ H' (List.getElem_mem hr') d

theorem ok_is_event (T : Txt K mg) : FnOk P w K mg base CX0 3 T.f_is_event T.d_is_event ["thing"] (sp_chk K dEv) := by
  refine T.F_is_event.ok sc_is_event (fun vs H Q E h => ?_) (fun cdv A outer s H vs Q E hr h => ?_)
  · obtain ⟨v, d, rfl, _⟩ := h
    rfl
  · obtain ⟨v, d, rfl, hv, hw, q⟩ := h
    have hud : (A.deeper (envOfC "is_event" (defScope s_is_event) s.heap.objs.size T.f_is_event cdv)).units + 64 < cLine := by have := hr.un; omega
    have hud2 : (A.deeper (envOfC "is_event" (defScope s_is_event) s.heap.objs.size T.f_is_event cdv)).units + 65 < cLine := by have := hr.un; omega
    refine ⟨_, (pss_cons (ps_if (PW.pt (pw_or (pt_not (pt_val (pe_callB call_isi rfl T.z_isinstance boot_isinstance (pa_cons (pv 0) (pa_cons (pe_bltn (v := .ty "tuple") rfl T.z_tuple boot_tuple rfl) pa_nil))))) (pw_or1 (pt_cmpR op_notIn_seq (pe_callB call_len rfl T.z_len boot_len (pa_cons (pv 0) pa_nil)) (pe_tup (pa_cons pe_int (pa_cons pe_int pa_nil))) rfl)))) (pss_one (ps_ret pe_bl)) pss_nil)
      (pss_cons (ps_if (pt_cmpR op_eq (pe_callB call_len rfl T.z_len boot_len (pa_cons (pv 0) pa_nil)) pe_int (nomark _)) (pss_one (ps_ret (pe_and (pe_cmpR (op_inV hud2) (pe_ix ix_tup (pv 0) pe_int (fun _ _ => rfl)) (pe_tup (pa_cons pe_str (pa_cons pe_str pa_nil))) rfl) (pe_one (pe_call (ok_are_octets__v T) (hr.mono (by decide)) rfl T.g_are_octets T.F_are_octets.kp T.b_are_octets .nil pass0 (pa_cons (pe_ix ix_tup (pv 0) pe_int (fun _ _ => rfl)) pa_nil)))))) pss_nil)
      (pss_one (ps_ret (pe_and (pe_cmpR (op_eqV hud) (pe_ix ix_tup (pv 0) pe_int (fun _ _ => rfl)) pe_str (nomark _)) (pe_and (pe_call (ok_is_stream T) (hr.mono (by decide)) rfl T.g_is_stream T.F_is_stream.kp T.b_is_stream .nil pass0 (pa_cons (pe_ix ix_tup (pv 0) pe_int (fun _ _ => rfl)) pa_nil)) (pe_one (pe_call (ok_are_octets__v T) (hr.mono (by decide)) rfl T.g_are_octets T.F_are_octets.kp T.b_are_octets .nil pass0 (pa_cons (pe_ix ix_tup (pv 0) pe_int (fun _ _ => rfl)) pa_nil))))))))), ?_⟩
    have k := hv.kind
    refine ⟨_, rfl, _, _, _, _, _, rfl, .ty _, k.ty, k.kit, _, rfl, ifb (fun e => ?_) (fun e => ?_)⟩
    · exact iteT (Q_bl (q H (Same.refl _)) (dEv_no (nb e)))
    obtain ⟨a, xs, ds, rfl, rfl, hs, ha⟩ := hv.asT (nb' e)
    have hlen := ha.len
    refine ⟨_, rfl, _, _, rfl, .inr ⟨_, hs, rfl⟩, by show 2 ≤ sizeLine; decide, fun tp htp => ?_⟩
    have s1 : Same H (upd H tp (.tup [.int 2, .int 3])) := Same.new htp
    have hs1 := s1.tup hs
    refine ⟨tp, _, rfl, .inr (.inl (.inl upd_same)), rfl, rfl, _, rfl, ifb (fun e2 => ?_) (fun e2 => ?_)⟩
    · obtain ⟨n2, n3⟩ := in23_no e2
      exact Q_bl (q _ s1) (dEv_ne (by omega) (by omega))
    rcases in23_yes e2 with l2 | l3
    · obtain ⟨x0, x1, d0, d1, rfl, rfl, h0, h1⟩ := len2 ha l2
      have w1 := w_tup (d := d1) (by simp) hw
      have eD : dEv (.tuple [d0, d1]) = ([("table" : Str), "answer"].any (fun z => isS d0 z) && dOctets d1) := rfl
      refine ⟨_, rfl, _, _, rfl, .inr ⟨_, hs1, rfl⟩, rfl, _, rfl, iteT ?_⟩
      refine ⟨_, rfl, _, _, _, _, rfl, rfl, hs1, rfl, by show 2 ≤ sizeLine; decide, fun tq htq => ?_⟩
      have s2 := s1.trans (Same.new (o := .tup [.str "table", .str "answer"]) htq)
      have h12 := h1.keep s2
      refine ⟨d0, tq, ["table", "answer"], h0.keep s2, rfl, SqT.of upd_same, ?_⟩
      refine ⟨_, rfl, ifb (fun e3 => ?_) (fun e3 => ?_)⟩
      · refine ⟨_, rfl, _, _, _, _, rfl, rfl, s2.tup hs, rfl, x1, d1, rfl, h12, w1, fun H2 t2 => Q_bl (q _ (s2.trans t2)) ?_⟩
        rw [eD, e3]; rfl
      · refine Q_bl (q _ s2) ?_
        rw [eD, e3]; rfl
    · obtain ⟨x0, x1, x2, d0, d1, d2, rfl, rfl, h0, h1, h2⟩ := len3 ha l3
      have w2 := w_tup (d := d2) (by simp) hw
      have eD : dEv (.tuple [d0, d1, d2]) = (isS d0 "block" && (dBtw d1 0 20 && dOctets d2)) := rfl
      refine ⟨_, rfl, _, _, rfl, .inr ⟨_, hs1, rfl⟩, rfl, _, rfl, ifF (by show decide (V.int 3 = V.int 2) = false; decide) ?_⟩
      refine ⟨_, rfl, _, _, _, _, rfl, rfl, hs1, rfl, d0, "block", h0.keep s1, rfl, _, rfl, ifb (fun e3 => ?_) (fun e3 => ?_)⟩
      · refine ⟨_, rfl, _, _, _, _, rfl, rfl, hs1, rfl, x1, _, rfl, (h1.keep s1).kind, _, rfl, ifb (fun e4 => ?_) (fun e4 => ?_)⟩
        · rw [h1.btw] at e4
          refine ⟨_, rfl, _, _, _, _, rfl, rfl, hs1, rfl, x2, d2, rfl, h2.keep s1, w2, fun H2 t2 => Q_bl (q _ (s1.trans t2)) ?_⟩
          rw [eD, e3, e4]; rfl
        · rw [h1.btw] at e4
          refine Q_bl (q _ s1) ?_
          rw [eD, e3, e4]; rfl
      · refine Q_bl (q _ s1) ?_
        rw [eD, e3]; rfl
theorem ok_is_log (T : Txt K mg) : FnOk P w K mg base CX0 4 T.f_is_log T.d_is_log ["thing"] (sp_chk K dLog) := by
  refine T.F_is_log.ok sc_is_log (fun vs H Q E h => ?_) (fun cdv A outer s H vs Q E hr h => ?_)
  · obtain ⟨v, d, rfl, _⟩ := h
    rfl
  · obtain ⟨v, d, rfl, hv, hw, q⟩ := h
    refine ⟨_, (pss_cons (ps_if (PW.pt (pw_or (pt_not (pt_val (pe_callB call_isi rfl T.z_isinstance boot_isinstance (pa_cons (pv 0) (pa_cons (pe_bltn (v := .ty "list") rfl T.z_list boot_list rfl) pa_nil))))) (pw_or1 (pt_cmpR op_gt (pe_callB call_len rfl T.z_len boot_len (pa_cons (pv 0) pa_nil)) (pe_glob (v := .int 40) rfl T.g_EVENTS_MOST ⟨_, rfl⟩) (nomark _))))) (pss_one (ps_ret pe_bl)) pss_nil)
      (pss_one (ps_ret (pe_callB (cr_all rfl) rfl T.z_all boot_all (pa_cons (pe_lc (own := [("event", 1)]) (g := (gName 1)) (tt := tYes)  rfl sc_is_log.nd (pi_list (pv 0)) (blkOk_by (own := [("event", 1)]) (N := ["thing", "event"]) (sc := defScope s_is_log) (by decide +kernel)) (fun _ _ _ _ _ => (pg_name (i := 1) sc_is_log.nd rfl (Or.inl rfl))) (fun _ _ _ _ _ => pts_nil) (fun _ _ _ _ _ => (pe_call (ok_is_event T) (hr.mono (by decide)) rfl T.g_is_event T.F_is_event.kp T.b_is_event .nil pass0 (pa_cons (pv 1) pa_nil)))) pa_nil))))), ?_⟩
    have k := hv.kind
    refine ⟨_, rfl, _, _, _, _, _, rfl, .ty _, k.ty, k.kit, _, rfl, ifb (fun e => ?_) (fun e => ?_)⟩
    · exact iteT (Q_bl (q H (Same.refl _)) (dLog_no (nb e)))
    obtain ⟨a, xs, ds, rfl, rfl, hs, ha⟩ := hv.asL (nb' e)
    have hlen := ha.len
    have eD : dLog (.list ds) = (decide (ds.length ≤ 40) && ds.all dEv) := rfl
    refine ⟨_, rfl, _, _, rfl, .inl ⟨_, hs, rfl⟩, _, _, rfl, rfl, _, rfl, ifb (fun e2 => ?_) (fun e2 => ?_)⟩
    · have e2' : (40 : Int) < (xs.length : Int) := by simpa using e2
      refine Q_bl (q H (Same.refl _)) ?_
      rw [eD, decide_eq_false (by omega)]; rfl
    have e2' : ¬ (40 : Int) < (xs.length : Int) := by simpa using e2
    refine ⟨_, rfl, a, rfl, ⟨xs, hs⟩, fun D hD => ?_⟩
    refine lc_map (walk_list (xs := xs)) (fun i => V.bl (dEv (ds.getD i .none))) (by omega) hD (fun _ s1 => s1.seq hs) ?_ ?_
    · rintro i y H' H'' Q' Z hi s1 ⟨rfl, hy⟩ q'
      refine ⟨rfl, yesI ?_⟩
      obtain ⟨d, hd, hdv⟩ := ha.at hy
      refine ⟨_, rfl, y, d, rfl, hdv.keep s1, w_lst (List.mem_of_getElem? hd) hw, fun H4 s4 => ?_⟩
      have := q' H4 s4
      rw [getD_of .none hd] at this
      exact this
    · intro H' s1 hD'
      rw [tests_of dEv ha] at hD'
      refine ⟨_, ds.map dEv, rfl, .inl (.inl hD'), Q_bl (q H' s1) ?_⟩
      rw [eD, decide_eq_true (by omega), Bool.true_and, all_id]
theorem ok_law_u_are_octets (T : Txt K mg) : FnOk P w K mg base CX0 1 T.f_law_u_are_octets T.d_law_u_are_octets ["given"] (sp_chk K dOctets) := by
  refine T.F_law_u_are_octets.ok sc_law_u_are_octets (fun vs H Q E h => ?_) (fun cdv A outer s H vs Q E hr h => ?_)
  · obtain ⟨v, d, rfl, _⟩ := h
    rfl
  · obtain ⟨v, d, rfl, hv, hw, q⟩ := h
    refine ⟨_, (pss_cons (ps_if (pt_not (pt_val (pe_callB call_isi rfl T.z_isinstance boot_isinstance (pa_cons (pv 0) (pa_cons (pe_bltn (v := .ty "list") rfl T.z_list boot_list rfl) pa_nil))))) (pss_one (ps_ret pe_bl)) pss_nil)
      (pss_one (ps_ret (pe_cmpR op_notIn_seq pe_bl (pe_lc (own := [("one", 1)]) (g := (gName 1)) (tt := tYes)  rfl sc_law_u_are_octets.nd (pi_list (pv 0)) (blkOk_by (own := [("one", 1)]) (N := ["given", "one"]) (sc := defScope s_law_u_are_octets) (by decide +kernel)) (fun _ _ _ _ _ => (pg_name (i := 1) sc_law_u_are_octets.nd rfl (Or.inl rfl))) (fun _ _ _ _ _ => pts_nil) (fun _ _ _ _ _ => (pe_and (pe_callB (clK (K := K) (r := rIsi) call_isi) rfl T.z_isinstance boot_isinstance (pa_cons (pv 1) (pa_cons (pe_bltn (v := .ty "int") rfl T.z_int boot_int rfl) pa_nil))) (pe_and (pe_not (pe_callB (clK (K := K) (r := rIsi) call_isi) rfl T.z_isinstance boot_isinstance (pa_cons (pv 1) (pa_cons (pe_bltn (v := .ty "bool") rfl T.z_bool boot_bool rfl) pa_nil)))) (pe_one (pe_chain op_le op_le pe_int (pv 1) pe_int)))))) rfl)))), ?_⟩
    have k := hv.kind
    refine ⟨_, rfl, _, _, _, _, _, rfl, .ty _, k.ty, k.kit, _, rfl, ifb (fun e => ?_) (fun e => ?_)⟩
    · exact Q_bl (q H (Same.refl _)) (dOctets_no (nb e))
    obtain ⟨a, xs, ds, rfl, rfl, hs, ha⟩ := hv.asL (nb' e)
    refine ⟨_, rfl, a, rfl, ⟨xs, hs⟩, fun D hD => ?_⟩
    refine lc_map (walk_list (xs := xs)) (fun i => V.bl (dBtw (ds.getD i .none) 0 255)) (by have := w_lstLen hw; have := ha.len; omega) hD (fun _ s1 => s1.seq hs) ?_ ?_
    · rintro i y H' H'' Q' Z hi s1 ⟨rfl, hy⟩ q'
      refine ⟨rfl, yesI ?_⟩
      obtain ⟨d, hd, hdv⟩ := ha.at hy
      have k1 := (hdv.keep s1).kind
      have fin := q' H'' (Same.refl _)
      rw [getD_of .none hd] at fin
      refine ⟨_, rfl, _, _, _, _, _, rfl, .ty _, k1.ty, k1.kit, _, rfl, ifb (fun e => ?_) (fun e => ?_)⟩
      · refine ⟨_, rfl, _, _, _, _, _, rfl, .ty _, k1.ty, k1.kit, _, rfl, _, rfl, ifb (fun e2 => ?_) (fun e2 => ?_)⟩
        · obtain ⟨z, rfl, rfl⟩ := hdv.asI e (nb e2)
          refine ⟨_, rfl, _, _, rfl, rfl, _, rfl, ifb (fun e3 => ?_) (fun e3 => ?_)⟩
          · refine ⟨_, _, rfl, rfl, ?_⟩
            exact Q_bl fin (by show (decide (0 ≤ z) && decide (z ≤ 255)) = _; rw [e3]; rfl)
          · exact Q_bl fin (by show (decide (0 ≤ z) && decide (z ≤ 255)) = _; rw [e3]; rfl)
        · exact Q_bl fin (dBtw_bool (nb' e2))
      · exact Q_bl fin (dBtw_no e)
    · intro H' s1 hD'
      rw [tests_of (fun d => dBtw d 0 255) ha] at hD'
      refine ⟨D, _, rfl, .inl (SqL.of hD'), rfl, flatB _, Q_bl (q H' s1) ?_⟩
      show (ds.all fun d => dBtw d 0 255) = (!inV (.bl false) ((ds.map fun d => dBtw d 0 255).map V.bl))
      rw [inB (b := false), Bool.not_not, all_id]
theorem ok_law_u_is_event (T : Txt K mg) : FnOk P w K mg base CX0 2 T.f_law_u_is_event T.d_law_u_is_event ["given"] (sp_chk K dEv) := by
  refine T.F_law_u_is_event.ok sc_law_u_is_event (fun vs H Q E h => ?_) (fun cdv A outer s H vs Q E hr h => ?_)
  · obtain ⟨v, d, rfl, _⟩ := h
    rfl
  · obtain ⟨v, d, rfl, hv, hw, q⟩ := h
    refine ⟨_, (pss_cons (ps_if (PW.pt (pw_or (pt_not (pt_val (pe_callB call_isi rfl T.z_isinstance boot_isinstance (pa_cons (pv 0) (pa_cons (pe_bltn (v := .ty "tuple") rfl T.z_tuple boot_tuple rfl) pa_nil))))) (pw_or (pt_cmpR op_notIn_seq (pe_callB call_len rfl T.z_len boot_len (pa_cons (pv 0) pa_nil)) (pe_tup (pa_cons pe_int (pa_cons pe_int pa_nil))) rfl) (pw_or1 (pt_not (pt_val (pe_callB call_isi rfl T.z_isinstance boot_isinstance (pa_cons (pe_ix ix_tup (pv 0) pe_int (fun _ _ => rfl)) (pa_cons (pe_bltn (v := .ty "str") rfl T.z_str boot_str rfl) pa_nil))))))))) (pss_one (ps_ret pe_bl)) pss_nil)
      (pss_cons (ps_if (PW.pt (pw_or (pt_cmpR op_notIn_seq (pe_ix ix_tup (pv 0) pe_int (fun _ _ => rfl)) (pe_lst (pa_cons pe_str (pa_cons pe_str (pa_cons pe_str pa_nil)))) rfl) (pw_or1 (pt_cmpR op_ne (pe_callB call_len rfl T.z_len boot_len (pa_cons (pv 0) pa_nil)) (pe_op op_add pe_int (pe_callTy call_int1 rfl T.z_int boot_int (pa_cons (pe_cmpR op_eq (pe_ix ix_tup (pv 0) pe_int (fun _ _ => rfl)) pe_str (nomark _)) pa_nil))) (nomark _))))) (pss_one (ps_ret pe_bl)) pss_nil)
      (pss_cons (ps_if (pt_cmpR op_eq (pe_callB call_len rfl T.z_len boot_len (pa_cons (pv 0) pa_nil)) pe_int (nomark _)) (pss_one (ps_if (PW.pt (pw_or (pt_not (pt_val (pe_callB call_isi rfl T.z_isinstance boot_isinstance (pa_cons (pe_ix ix_tup (pv 0) pe_int (fun _ _ => rfl)) (pa_cons (pe_bltn (v := .ty "int") rfl T.z_int boot_int rfl) pa_nil))))) (pw_or (pt_val (pe_callB call_isi rfl T.z_isinstance boot_isinstance (pa_cons (pe_ix ix_tup (pv 0) pe_int (fun _ _ => rfl)) (pa_cons (pe_bltn (v := .ty "bool") rfl T.z_bool boot_bool rfl) pa_nil)))) (pw_or1 (pt_not (pt_chain op_le op_le pe_int (pe_ix ix_tup (pv 0) pe_int (fun _ _ => rfl)) pe_int)))))) (pss_one (ps_ret pe_bl)) pss_nil)) pss_nil)
      (pss_one (ps_ret (pe_call (ok_law_u_are_octets T) (hr.mono (by decide)) rfl T.g_law_u_are_octets T.F_law_u_are_octets.kp T.b_law_u_are_octets .nil pass0 (pa_cons (pe_ix ix_tup (pv 0) (pe_un un_neg pe_int) (fun _ _ => rfl)) pa_nil))))))), ?_⟩
    have k := hv.kind
    refine ⟨_, rfl, _, _, _, _, _, rfl, .ty _, k.ty, k.kit, _, rfl, ifb (fun e => ?_) (fun e => ?_)⟩
    · exact iteT (Q_bl (q H (Same.refl _)) (dEv_no (nb e)))
    obtain ⟨a, xs, ds, rfl, rfl, hs, ha⟩ := hv.asT (nb' e)
    have hlen := ha.len
    refine ⟨_, rfl, _, _, rfl, .inr ⟨_, hs, rfl⟩, by show 2 ≤ sizeLine; decide, fun tp htp => ?_⟩
    have s1 : Same H (upd H tp (.tup [.int 2, .int 3])) := Same.new htp
    have hs1 := s1.tup hs
    refine ⟨tp, _, rfl, .inr (.inl (.inl upd_same)), rfl, rfl, _, rfl, ifb (fun e2 => ?_) (fun e2 => ?_)⟩
    · obtain ⟨n2, n3⟩ := in23_no e2
      exact iteT (Q_bl (q _ s1) (dEv_ne (by omega) (by omega)))
    have ha1 := ha.keep s1
    generalize upd H tp (.tup [.int 2, .int 3]) = H1 at s1 hs1 ha1 ⊢
    rcases in23_yes e2 with l2 | l3
    · obtain ⟨x0, x1, d0, d1, rfl, rfl, h0, h1⟩ := len2 ha1 l2
      have w1 := w_tup (d := d1) (by simp) hw
      have k0 := h0.kind
      have eD : dEv (.tuple [d0, d1]) = ((isS d0 "table" || (isS d0 "answer" || false)) && dOctets d1) := rfl
      refine ⟨_, rfl, _, _, _, _, rfl, rfl, hs1, rfl, _, _, _, _, _, rfl, .ty _, k0.ty, k0.kit, _, rfl, ifb (fun e3 => ?_) (fun e3 => ?_)⟩
      · refine Q_bl (q _ s1) ?_
        rw [eD, isS_no (nb e3), isS_no (nb e3)]; rfl
      obtain ⟨z, rfl, rfl⟩ := h0.asS (nb' e3)
      refine ⟨_, rfl, _, _, _, _, rfl, rfl, hs1, rfl, by show 3 ≤ sizeLine; decide, fun lq hlq => ?_⟩
      have sq := Same.new (o := .lst [.str "table", .str "answer", .str "block"]) hlq
      have gq : upd H1 lq (.lst [.str "table", .str "answer", .str "block"]) lq = some (.lst [.str "table", .str "answer", .str "block"]) := upd_same
      generalize upd H1 lq (.lst [.str "table", .str "answer", .str "block"]) = H2 at sq gq ⊢
      have s2 := s1.trans sq
      have hs2 := sq.tup hs1
      have h12 := h1.keep sq
      refine ⟨lq, _, rfl, .inl (SqL.of gq), rfl, rfl, _, rfl, ?_⟩
      rw [evK]
      refine ifb (fun e4 => ?_) (fun e4 => ?_)
      · refine Q_bl (q _ s2) ?_
        have e4' := nb e4
        rw [Bool.or_eq_false_iff, Bool.or_eq_false_iff] at e4'
        rw [eD, e4'.1, e4'.2.1]; rfl
      have e4' := nb' e4
      refine ⟨_, rfl, _, _, rfl, .inr ⟨_, hs2, rfl⟩, _, rfl, _, _, _, _, rfl, rfl, hs2, rfl, rfl, .inr ⟨_, rfl, _, _, rfl, rfl, rfl, _, rfl, ?_⟩⟩
      rw [decS]
      cases eb : isS (.str z) "block" with
      | true =>
        refine ifT (by show (!decide (V.int 2 = V.int 3)) = true; decide) (Q_bl (q _ s2) ?_)
        rw [eD, isS_eq eb (b := "table") (by decide), isS_eq eb (b := "answer") (by decide)]; rfl
      | false =>
        refine ifF (by show (!decide (V.int 2 = V.int 2)) = false; decide) ?_
        rw [eb, Bool.or_false] at e4'
        refine ⟨_, rfl, _, _, rfl, .inr ⟨_, hs2, rfl⟩, rfl, _, rfl, ifF (by show decide (V.int 2 = V.int 3) = false; decide) ?_⟩
        refine ⟨_, rfl, _, rfl, _, _, _, _, rfl, rfl, hs2, rfl, x1, d1, rfl, h12, w1, fun H3 s3 => Q_bl (q _ (s2.trans s3)) ?_⟩
        rw [eD, Bool.or_false, e4']; rfl
    · obtain ⟨x0, x1, x2, d0, d1, d2, rfl, rfl, h0, h1, h2⟩ := len3 ha1 l3
      have w2 := w_tup (d := d2) (by simp) hw
      have k0 := h0.kind
      have eD : dEv (.tuple [d0, d1, d2]) = (isS d0 "block" && (dBtw d1 0 20 && dOctets d2)) := rfl
      refine ⟨_, rfl, _, _, _, _, rfl, rfl, hs1, rfl, _, _, _, _, _, rfl, .ty _, k0.ty, k0.kit, _, rfl, ifb (fun e3 => ?_) (fun e3 => ?_)⟩
      · refine Q_bl (q _ s1) ?_
        rw [eD, isS_no (nb e3)]; rfl
      obtain ⟨z, rfl, rfl⟩ := h0.asS (nb' e3)
      refine ⟨_, rfl, _, _, _, _, rfl, rfl, hs1, rfl, by show 3 ≤ sizeLine; decide, fun lq hlq => ?_⟩
      have sq := Same.new (o := .lst [.str "table", .str "answer", .str "block"]) hlq
      have gq : upd H1 lq (.lst [.str "table", .str "answer", .str "block"]) lq = some (.lst [.str "table", .str "answer", .str "block"]) := upd_same
      generalize upd H1 lq (.lst [.str "table", .str "answer", .str "block"]) = H2 at sq gq ⊢
      have s2 := s1.trans sq
      have hs2 := sq.tup hs1
      have h12 := h1.keep sq
      have h22 := h2.keep sq
      refine ⟨lq, _, rfl, .inl (SqL.of gq), rfl, rfl, _, rfl, ?_⟩
      rw [evK]
      refine ifb (fun e4 => ?_) (fun e4 => ?_)
      · refine Q_bl (q _ s2) ?_
        have e4' := nb e4
        rw [Bool.or_eq_false_iff, Bool.or_eq_false_iff] at e4'
        rw [eD, e4'.2.2]; rfl
      refine ⟨_, rfl, _, _, rfl, .inr ⟨_, hs2, rfl⟩, _, rfl, _, _, _, _, rfl, rfl, hs2, rfl, rfl, .inr ⟨_, rfl, _, _, rfl, rfl, rfl, _, rfl, ?_⟩⟩
      rw [decS]
      cases eb : isS (.str z) "block" with
      | false =>
        refine ifT (by show (!decide (V.int 3 = V.int 2)) = true; decide) (Q_bl (q _ s2) ?_)
        rw [eD, eb]; rfl
      | true =>
        refine ifF (by show (!decide (V.int 3 = V.int 3)) = false; decide) ?_
        refine ⟨_, rfl, _, _, rfl, .inr ⟨_, hs2, rfl⟩, rfl, _, rfl, ifT (by show decide (V.int 3 = V.int 3) = true; decide) ?_⟩
        have k1 := h12.kind
        refine ⟨_, rfl, _, _, _, _, rfl, rfl, hs2, rfl, _, _, _, _, _, rfl, .ty _, k1.ty, k1.kit, _, rfl, ifb (fun e5 => ?_) (fun e5 => ?_)⟩
        · refine Q_bl (q _ s2) ?_
          rw [eD, dBtw_no (nb e5), Bool.false_and, Bool.and_false]
        refine ⟨_, rfl, _, _, _, _, rfl, rfl, hs2, rfl, _, _, _, _, _, rfl, .ty _, k1.ty, k1.kit, _, rfl, ifb (fun e6 => ?_) (fun e6 => ?_)⟩
        · refine Q_bl (q _ s2) ?_
          rw [eD, dBtw_bool e6, Bool.false_and, Bool.and_false]
        obtain ⟨i, rfl, rfl⟩ := h12.asI (nb' e5) e6
        have eB : dBtw (.int i) 0 20 = (decide (0 ≤ i) && decide (i ≤ 20)) := rfl
        refine ⟨_, rfl, _, _, _, _, rfl, rfl, hs2, rfl, _, _, rfl, rfl, _, rfl, ifb (fun e7 => ?_) (fun e7 => ?_)⟩
        · refine ⟨_, _, rfl, rfl, _, rfl, ifb (fun e8 => ?_) (fun e8 => ?_)⟩
          · refine Q_bl (q _ s2) ?_
            rw [eD, eB, nb e8, Bool.and_false, Bool.false_and, Bool.and_false]
          · refine ⟨_, rfl, _, rfl, _, _, _, _, rfl, rfl, hs2, rfl, x2, d2, rfl, h22, w2, fun H3 s3 => Q_bl (q _ (s2.trans s3)) ?_⟩
            rw [eD, eB, e7, nb' e8, eb]; rfl
        · refine ⟨_, rfl, ifT rfl (Q_bl (q _ s2) ?_)⟩
          rw [eD, eB, e7, Bool.false_and, Bool.false_and, Bool.and_false]

theorem ok_law_u_setting (T : Txt K mg) : FnOk P w K mg base CX0 4 T.f_law_u_setting T.d_law_u_setting ["pen"] (sp_u_setting K) := by
  refine T.F_law_u_setting.ok sc_law_u_setting (fun vs H Q E h => ?_) (fun cdv A outer s H vs Q E hr h => ?_)
  · obtain ⟨p, c, n, rfl, _⟩ := h
    rfl
  · obtain ⟨p, c, n, rfl, hp, hn, q⟩ := h
    refine ⟨_, (pss_cons (ps_set (i := 1) sc_law_u_setting.nd rfl (Or.inl rfl) (pe_lst (pa_cons (pe_tup (pa_cons pe_str (pa_cons pe_str pa_nil))) (pa_cons (pe_tup (pa_cons pe_str (pa_cons pe_str pa_nil))) (pa_cons (pe_tup (pa_cons pe_str (pa_cons pe_str pa_nil))) (pa_cons (pe_tup (pa_cons pe_str (pa_cons pe_str pa_nil))) pa_nil))))))
      (pss_one (ps_ret (pe_tup (pa_cons (pe_callTy call_tuple_of rfl T.z_tuple boot_tuple (pa_cons (pe_slice sl_list (pv 1) po_none (po_some (pe_call (ok_law_take T) (hr.mono (by decide)) rfl T.g_law_take T.F_law_take.kp T.b_law_take .nil pass0 (pa_cons (pv 0) (pa_cons pe_int pa_nil))))) pa_nil)) (pa_cons (pe_call (ok_law_u_pick T) (hr.mono (by decide)) rfl T.g_law_u_pick T.F_law_u_pick.kp T.b_law_u_pick .nil pass0 (pa_cons (pv 0) (pa_cons (pe_lst (pa_cons pe_int (pa_cons pe_int (pa_cons pe_int (pa_cons pe_int (pa_cons pe_int (pa_cons pe_int pa_nil))))))) pa_nil))) (pa_cons (pe_call (ok_law_take T) (hr.mono (by decide)) rfl T.g_law_take T.F_law_take.kp T.b_law_take .nil pass0 (pa_cons (pv 0) (pa_cons pe_int pa_nil))) pa_nil))))))), ?_⟩
    refine ⟨by show 2 ≤ sizeLine; decide, fun t1 h1 => ?_⟩
    have s1 := Same.new (o := .tup [.str "a", .str "x"]) h1
    refine ⟨by show 2 ≤ sizeLine; decide, fun t2 h2 => ?_⟩
    have s2 := Same.new (o := .tup [.str "b", .str ""]) h2
    refine ⟨by show 2 ≤ sizeLine; decide, fun t3 h3 => ?_⟩
    have s3 := Same.new (o := .tup [.str "a", .str "yy"]) h3
    refine ⟨by show 2 ≤ sizeLine; decide, fun t4 h4 => ?_⟩
    have s4 := Same.new (o := .tup [.str "cc", .str "x"]) h4
    refine ⟨by show 4 ≤ sizeLine; decide, fun l hl => ?_⟩
    have s5 := Same.new (o := .lst [.ref t1, .ref t2, .ref t3, .ref t4]) hl
    have sA := (((s1.trans s2).trans s3).trans s4).trans s5
    have hF : FdsV K (upd (upd (upd (upd (upd H t1 (.tup [.str "a", .str "x"])) t2 (.tup [.str "b", .str ""])) t3 (.tup [.str "a", .str "yy"])) t4 (.tup [.str "cc", .str "x"])) l (.lst [.ref t1, .ref t2, .ref t3, .ref t4])) [.ref t1, .ref t2, .ref t3, .ref t4] [("a", "x"), ("b", ""), ("a", "yy"), ("cc", "x")] :=
      .cons ⟨t1, rfl, SqT.of ((((s2.trans s3).trans s4).trans s5) _ _ upd_same)⟩ (.cons ⟨t2, rfl, SqT.of (((s3.trans s4).trans s5) _ _ upd_same)⟩ (.cons ⟨t3, rfl, SqT.of ((s4.trans s5) _ _ upd_same)⟩ (.cons ⟨t4, rfl, SqT.of (s5 _ _ upd_same)⟩ .nil)))
    have gl : upd (upd (upd (upd (upd H t1 (.tup [.str "a", .str "x"])) t2 (.tup [.str "b", .str ""])) t3 (.tup [.str "a", .str "yy"])) t4 (.tup [.str "cc", .str "x"])) l (.lst [.ref t1, .ref t2, .ref t3, .ref t4]) l = some (.lst [.ref t1, .ref t2, .ref t3, .ref t4]) := upd_same
    have hlH : H l = none := (((s1.trans s2).trans s3).trans s4).free hl
    generalize upd (upd (upd (upd (upd H t1 (.tup [.str "a", .str "x"])) t2 (.tup [.str "b", .str ""])) t3 (.tup [.str "a", .str "yy"])) t4 (.tup [.str "cc", .str "x"])) l (.lst [.ref t1, .ref t2, .ref t3, .ref t4]) = H5 at sA hF gl ⊢
    have P5 := hp.keep sA
    have nlp : l ≠ p := Ne.symm (hp.ne hlH)
    have okF : ∀ f ∈ [((("a" : Str), ("x" : Str)) : Fd), ("b", ""), ("a", "yy"), ("cc", "x")], FdOk f := by
      intro f hf
      simp only [List.mem_cons, List.not_mem_nil, or_false] at hf
      rcases hf with rfl | rfl | rfl | rfl <;> exact ⟨by decide +kernel, by decide +kernel⟩
    refine ⟨_, rfl, _, rfl, take_n 4 P5 (by decide) (by decide) (by omega) fun k H6 hk d6 => ?_⟩
    refine ⟨_, rfl, l, _, rfl, SqL.of (d6.but _ _ nlp gl), fun p1 hp1 => ?_⟩
    rw [cut_to]
    have t6 := TS.drew P5 d6
    have s7 := Same.new (o := .lst ([V.ref t1, .ref t2, .ref t3, .ref t4].take k)) hp1
    have hF7 := p_take k ((hF.ts t6).ts (.of s7))
    have hlk : ([((("a" : Str), ("x" : Str)) : Fd), ("b", ""), ("a", "yy"), ("cc", "x")].take k).length ≤ 3 := by rw [List.length_take]; omega
    have okk : ∀ f ∈ [((("a" : Str), ("x" : Str)) : Fd), ("b", ""), ("a", "yy"), ("cc", "x")].take k, FdOk f := fun f hf => okF f (List.mem_of_mem_take hf)
    have P7 := d6.pen.keep s7
    have b7 : But p H (upd H6 p1 (.lst ([V.ref t1, .ref t2, .ref t3, .ref t4].take k))) := ((But.of sA).trans d6.but).trans (But.of s7)
    have g7 : upd H6 p1 (.lst ([V.ref t1, .ref t2, .ref t3, .ref t4].take k)) p1 = some (.lst ([V.ref t1, .ref t2, .ref t3, .ref t4].take k)) := upd_same
    generalize upd H6 p1 (.lst ([V.ref t1, .ref t2, .ref t3, .ref t4].take k)) = H7 at hF7 P7 b7 g7 ⊢
    generalize [V.ref t1, .ref t2, .ref t3, .ref t4].take k = ys at hF7 g7 ⊢
    generalize [((("a" : Str), ("x" : Str)) : Fd), ("b", ""), ("a", "yy"), ("cc", "x")].take k = F at hF7 hlk okk
    refine ⟨p1, _, rfl, .inl ⟨SqL.of g7, fun t ht => ?_⟩⟩
    have s8 := Same.new (o := .tup ys) ht
    have P8 := P7.keep s8
    refine ⟨_, rfl, by show 6 ≤ sizeLine; decide, fun l9 hl9 => pick_new P8 hl9 (by simp) (by show 6 ≤ 1000; decide) (by omega) fun x H9 hx d9 => ?_⟩
    obtain ⟨r, rfl, hr⟩ : ∃ z : Nat, x = .int (z : Nat) ∧ z ≤ 40 := by
      simp only [List.mem_cons, List.not_mem_nil, or_false] at hx
      rcases hx with h | h | h | h | h | h
      · exact ⟨12, h, by omega⟩
      · exact ⟨14, h, by omega⟩
      · exact ⟨18, h, by omega⟩
      · exact ⟨24, h, by omega⟩
      · exact ⟨24, h, by omega⟩
      · exact ⟨40, h, by omega⟩
    refine ⟨_, rfl, take_n 5 d9.pen (by decide) (by decide) (by omega) fun w7 H10 hw d10 => ?_⟩
    refine ⟨by show 3 ≤ sizeLine; decide, fun st hst => ?_⟩
    have s11 := Same.new (o := .tup [.ref t, .int (r : Nat), .int (w7 : Nat)]) hst
    have t89 := TS.drew P8 d9
    have t910 := TS.drew d9.pen d10
    refine q st t ys F r w7 _ (SqT.of upd_same) ((t89.trans (t910.trans (.of s11))).tup (SqT.of upd_same)) (FdsV.ts hF7 ((TS.of s8).trans (t89.trans (t910.trans (.of s11))))) ⟨by omega, okk, by omega, by omega⟩ hr hlk ?_
    exact ⟨(d10.pen.keep s11).mono (by omega), (((b7.trans (But.of s8)).trans d9.but).trans d10.but).trans (But.of s11)⟩
theorem ok_law_u_behind (T : Txt K mg) : FnOk P w K mg base CX0 8 T.f_law_u_behind T.d_law_u_behind ["fits", "carried"] (sp_u_behind K) := by
  refine T.F_law_u_behind.ok sc_law_u_behind (fun vs H Q E h => ?_) (fun cdv A outer s H vs Q E hr h => ?_)
  · obtain ⟨sv, L, F, r, w, xs, is, rfl, _⟩ := h
    rfl
  · obtain ⟨sv, L, F, r, w, xs, is, rfl, hS, okS, hL, hi, oki, hlen, qs, qn⟩ := h
    refine ⟨_, (pss_cons (ps_set (i := 2) sc_law_u_behind.nd rfl (Or.inl rfl) pe_non)
      (pss_cons (ps_try_only rfl rfl ⟨rfl, rfl, .inl T.E_BadTable.g⟩ takes0 (fun W pn xe tk hp =>
        (pss_one (ps_set (i := 2) sc_law_u_behind.nd rfl (Or.inl rfl) (pe_callS (ok_run_table T) (hr.mono (by decide)) rfl T.g_run_table T.F_run_table.kp T.b_run_table (fun σ => passAt tk σ) (pa_cons (pv 0) (pa_cons (pv 1) pa_nil)))))) (fun _ _ _ _ _ _ _ => (pss_one (ps_set (i := 2) sc_law_u_behind.nd rfl (Or.inl rfl) pe_non))))
      (pss_one (ps_ret (pv 2))))), ?_⟩
    refine ⟨_, rfl, _, rfl, sv, L, F, r, w, xs, is, rfl, hS, okS, hL, hi, oki, hlen, ?_⟩
    unfold stO at qs qn
    revert qs qn
    cases runT F r (tb0 r) 0 is with
    | ok t =>
      intro qs qn D o H1 hD ho s1 gO hE
      exact ⟨_, rfl, qs t rfl D o H1 hD ho s1 gO hE⟩
    | error k =>
      intro qs qn d H1 s1 hd
      exact ⟨true, T.SE_BadTable, fun _ _ _ => ⟨_, rfl, qn rfl H1 s1⟩, fun z => nomatch z⟩
theorem ok_law_u_instruction (T : Txt K mg) : FnOk P w K mg base CX0 4 T.f_law_u_instruction T.d_law_u_instruction ["pen", "fits", "count", "kept"] (sp_u_ins K) := by
  refine T.F_law_u_instruction.ok sc_law_u_instruction (fun vs H Q E h => ?_) (fun cdv A outer s H vs Q E hr h => ?_)
  · obtain ⟨p, c, D, n, sv, F, r, w, t, rfl, _⟩ := h
    rfl
  · obtain ⟨p, c, D, n, sv, F, r, w, t, rfl, hp, hn, hS, okS, hE, okT, hmd, q⟩ := h
    have hud : (A.deeper (envOfC "_law_u_instruction" (defScope s_law_u_instruction) s.heap.objs.size T.f_law_u_instruction cdv)).units + 64 < cLine := by have := hr.un; omega
    refine ⟨_, (pss_cons (ps_par (i := 4) (j := 5) rfl sc_law_u_instruction.nd rfl rfl (by decide) rfl rfl (pa_cons (pe_call (ok_law_u_pick T) (hr.mono (by decide)) rfl T.g_law_u_pick T.F_law_u_pick.kp T.b_law_u_pick .nil pass0 (pa_cons (pv 0) (pa_cons (pe_lst (pa_cons pe_str (pa_cons pe_str (pa_cons pe_str pa_nil)))) pa_nil))) (pa_cons (pe_call (ok_law_u_pick T) (hr.mono (by decide)) rfl T.g_law_u_pick T.F_law_u_pick.kp T.b_law_u_pick .nil pass0 (pa_cons (pv 0) (pa_cons (pe_lst (pa_cons pe_str (pa_cons pe_str (pa_cons pe_str (pa_cons pe_str pa_nil))))) pa_nil))) pa_nil)) (by rfl))
      (pss_cons (ps_par (i := 6) (j := 7) rfl sc_law_u_instruction.nd rfl rfl (by decide) rfl rfl (pa_cons (pe_call (ok_law_take T) (hr.mono (by decide)) rfl T.g_law_take T.F_law_take.kp T.b_law_take .nil pass0 (pa_cons (pv 0) (pa_cons pe_int pa_nil))) (pa_cons (pe_call (ok_law_u_pick T) (hr.mono (by decide)) rfl T.g_law_u_pick T.F_law_u_pick.kp T.b_law_u_pick .nil pass0 (pa_cons (pv 0) (pa_cons (pe_op op_cat (pe_callB (call_sortedDI rfl) rfl T.z_sorted boot_sorted (pa_cons (pv 3) pa_nil)) (pe_lst (pa_cons (pv 2) pa_nil))) pa_nil))) pa_nil)) (by rfl))
      (Evl.pss_cut (ps_if (PW.pt (pw_and (pt_cmpR op_lt (pv 6) pe_int (nomark _)) (pw_and1 (pt_cmpR op_lt (pv 7) (pv 2) (nomark _))))) (pss_one (ps_ret (pe_ifExp (pt_cmpR op_eq (pv 6) pe_int (nomark _)) (pe_tup (pa_cons pe_str (pa_cons (pe_op op_sub (pe_op op_sub (pv 2) pe_int) (pv 7)) pa_nil))) (pe_tup (pa_cons pe_str (pa_cons (pe_op op_sub (pe_op op_sub (pv 2) pe_int) (pv 7)) (pa_cons (pv 5) pa_nil))))))) pss_nil)
      (Evl.pss_cut (ps_if (PW.pt (pw_and (pt_cmpR op_eq (pv 6) pe_int (nomark _)) (pw_and1 (pt_cmpR (op_neD hud) (pe_ix ix_tup (pv 1) pe_int (fun _ _ => rfl)) (pe_tup pa_nil) (nomark _))))) (pss_one (ps_ret (pe_tup (pa_cons pe_str (pa_cons (pe_call (ok_law_take T) (hr.mono (by decide)) rfl T.g_law_take T.F_law_take.kp T.b_law_take .nil pass0 (pa_cons (pv 0) (pa_cons (pe_callB call_len rfl T.z_len boot_len (pa_cons (pe_ix ix_tup (pv 1) pe_int (fun _ _ => rfl)) pa_nil)) pa_nil))) (pa_cons (pv 5) pa_nil)))))) pss_nil)
      (Evl.pss_cut (ps_if (pt_cmpR op_eq (pv 6) pe_int (nomark _)) (pss_one (ps_ret (pe_tup (pa_cons pe_str (pa_cons (pe_call (ok_law_u_pick T) (hr.mono (by decide)) rfl T.g_law_u_pick T.F_law_u_pick.kp T.b_law_u_pick .nil pass0 (pa_cons (pv 0) (pa_cons (pe_lst (pa_cons (pe_ix ix_tup (pv 1) pe_int (fun _ _ => rfl)) (pa_cons (pe_ix ix_tup (pv 1) pe_int (fun _ _ => rfl)) (pa_cons pe_int (pa_cons pe_int (pa_cons pe_int (pa_cons pe_int pa_nil))))))) pa_nil))) pa_nil))))) pss_nil)
      (Evl.pss_cut (ps_if (PW.pt (pw_and (pt_cmpR op_eq (pv 6) pe_int (nomark _)) (pw_and1 (pt_cmpR op_eq (pe_call (ok_law_take T) (hr.mono (by decide)) rfl T.g_law_take T.F_law_take.kp T.b_law_take .nil pass0 (pa_cons (pv 0) (pa_cons pe_int pa_nil))) pe_int (nomark _))))) (pss_one (ps_ret (pe_call (ok_law_u_pick T) (hr.mono (by decide)) rfl T.g_law_u_pick T.F_law_u_pick.kp T.b_law_u_pick .nil pass0 (pa_cons (pv 0) (pa_cons (pe_lst (pa_cons (pe_tup (pa_cons pe_str (pa_cons pe_int pa_nil))) (pa_cons (pe_tup (pa_cons pe_str (pa_cons pe_int (pa_cons pe_str pa_nil)))) (pa_cons (pe_tup (pa_cons pe_str (pa_cons (pe_op op_add (pe_ix ix_tup (pv 1) pe_int (fun _ _ => rfl)) pe_int) pa_nil))) (pa_cons (pe_tup (pa_cons pe_str (pa_cons pe_int (pa_cons pe_str pa_nil)))) pa_nil))))) pa_nil))))) pss_nil)
      (pss_one (ps_ret (pe_tup (pa_cons pe_str (pa_cons (pv 4) (pa_cons (pv 5) pa_nil)))))))))))), ?_⟩
    refine ⟨_, rfl, by show 3 ≤ sizeLine; decide, fun l hl => pick_new hp hl (by simp) (by show 3 ≤ 1000; decide) (by omega) fun x H1 hx d1 => ?_⟩
    obtain ⟨nm, rfl, hnm⟩ := name_of hx
    refine ⟨_, rfl, by show 4 ≤ sizeLine; decide, fun l hl => pick_new d1.pen hl (by simp) (by show 4 ≤ 1000; decide) (by omega) fun x H2 hx d2 => ?_⟩
    obtain ⟨vl, rfl, hvl⟩ := value_of hx
    refine ⟨_, _, rfl, ?_⟩
    have D2 := Drew.trans d1 d2
    refine ⟨_, rfl, take_n 8 d2.pen (by decide) (by decide) (by omega) fun wy H3 hwy d3 => ?_⟩
    have D3 := D2.trans d3
    have k3 := KS.drew hp D3
    obtain ⟨kvs, gD, hpp⟩ := id (hE.ks k3)
    have hkl := p_len hpp
    have hl24 := okT.len
    refine ⟨_, rfl, _, rfl, D, kvs, _, rfl, .inl gD, keys_inl hpp, by rw [List.length_map]; omega, fun ys pL perm sorted hpL => ?_⟩
    have eys := sorted_keys okT.ascE perm sorted
    subst eys
    have s4 := Same.new (o := .lst ((t.es.map fun e => ((e.1 : Nat) : Int)).map V.int)) hpL
    refine ⟨_, rfl, by show 1 ≤ sizeLine; decide, fun l5 hl5 => ?_⟩
    have s5 := Same.new (o := .lst [.int (t.made : Nat)]) hl5
    refine ⟨pL, l5, _, _, rfl, rfl, s5 _ _ upd_same, upd_same, by rw [List.length_map, List.length_map]; show t.es.length + 1 ≤ sizeLine; rw [sizeLine_eq]; omega, fun l6 hl6 => pick_new ((d3.pen.keep s4).keep s5) hl6 (by simp) (by rw [List.length_append, List.length_map, List.length_map]; show t.es.length + 1 ≤ 1000; omega) (by omega) fun x H7 hx d7 => ?_⟩
    obtain ⟨z, rfl, hz⟩ : ∃ z : Nat, x = .int (z : Nat) ∧ z ≤ t.made := by
      rcases List.mem_append.mp hx with h | h
      · obtain ⟨y, hy, rfl⟩ := List.mem_map.mp h
        obtain ⟨e, he2, rfl⟩ := List.mem_map.mp hy
        exact ⟨e.1, rfl, by have := okT.lt e he2; omega⟩
      · rw [List.mem_singleton.mp h]
        exact ⟨t.made, rfl, Nat.le_refl _⟩
    refine ⟨_, _, rfl, ?_⟩
    have D7 : Drew p c H H7 (n + 4) := ⟨d7.pen.mono (by omega), (D3.but.trans (But.of (s4.trans s5))).trans d7.but⟩
    clear hx d7 hl6 hl5 s5 s4 hpL perm sorted hpp gD d3 D3 k3 d2 d1 D2
    -- again, entry
    refine ⟨fun σ' H' => σ' = [some (.ref p), some sv, some (.int (t.made : Nat)), some (.ref D), some (.str nm), some (.str vl), some (.int (wy : Nat)), some (.int (z : Nat))] ∧ Drew p c H H' (n + 4), ?_, ?_⟩
    · refine ⟨_, rfl, _, _, rfl, rfl, _, rfl, ifb (fun _ => ?_) (fun _ => ⟨rfl, D7⟩)⟩
      refine ⟨_, rfl, _, rfl, _, _, rfl, rfl, _, rfl, ifb (fun hlt => ?_) (fun _ => ⟨rfl, D7⟩)⟩
      have hzm : z < t.made := by have : ((z : Nat) : Int) < (t.made : Nat) := of_decide_eq_true hlt; omega
      have ez : (t.made : Int) - 1 - (z : Int) = ((t.made - 1 - z : Nat) : Int) := by omega
      refine ⟨_, rfl, rfl, _, rfl, ifb (fun _ => ?_) (fun _ => ?_)⟩
      · refine ⟨_, rfl, _, _, rfl, rfl, _, rfl, _, _, rfl, rfl, by show 2 ≤ sizeLine; decide, fun tp htp => ?_⟩
        dsimp only
        rw [ez]
        exact q _ (.again (t.made - 1 - z)) _ ⟨tp, rfl, SqT.of upd_same⟩ (by show _ ≤ 9999; omega) ((D7.keep (Same.new htp)).mono (by omega))
      · refine ⟨_, rfl, _, _, rfl, rfl, _, rfl, _, _, rfl, rfl, _, rfl, by show 3 ≤ sizeLine; decide, fun tp htp => ?_⟩
        dsimp only
        rw [ez]
        exact q _ (.entry (t.made - 1 - z) vl) _ ⟨tp, rfl, SqT.of upd_same⟩ ⟨by omega, hvl⟩ ((D7.keep (Same.new htp)).mono (by omega))
    rintro σ' H8 ⟨rfl, D8⟩
    clear D7
    -- fixed
    refine ⟨fun σ' H' => σ' = [some (.ref p), some sv, some (.int (t.made : Nat)), some (.ref D), some (.str nm), some (.str vl), some (.int (wy : Nat)), some (.int (z : Nat))] ∧ Drew p c H H' (n + 4), ?_, ?_⟩
    · obtain ⟨sa, ft, fx, rfl, g1, g2, g3⟩ := hS.ts (TS.drew hp D8)
      have hlF := p_len g3
      have hF12 := okS.len
      refine ⟨_, rfl, rfl, _, rfl, ifb (fun _ => ?_) (fun _ => ⟨rfl, D8⟩)⟩
      refine ⟨_, rfl, _, _, _, _, rfl, rfl, g1, rfl, by show 0 ≤ sizeLine; decide, fun t0 ht0 => ?_⟩
      have s9 := Same.new (o := .tup []) ht0
      refine ⟨.tuple (F.map fdat), .tuple [], .tup (s9.tup g2) (g3.ts (.of s9)).dp, .tup (SqT.of upd_same) .nil, fds_shaped okS.fd (by omega), rfl, _, rfl, ifb (fun hne => ?_) (fun _ => ⟨rfl, D8.keep s9⟩)⟩
      have hpos : 0 < fx.length := by
        cases hf : F with
        | nil => rw [hf] at hne; cases hne
        | cons a r => rw [hf] at hlF; rw [hlF, List.length_cons]; omega
      have D9 := D8.keep s9
      have g19 := s9.tup g1
      have g29 := s9.tup g2
      generalize upd H8 t0 (.tup []) = H9 at D9 g19 g29 ⊢
      refine ⟨_, rfl, _, rfl, _, _, _, _, rfl, rfl, g19, rfl, _, _, rfl, .inr ⟨_, g29, rfl⟩, take_n fx.length D9.pen hpos (by omega) (by omega) fun k H10 hk d10 => ?_⟩
      refine ⟨_, rfl, by show 3 ≤ sizeLine; decide, fun tp htp => ?_⟩
      exact q _ (.fixed k vl) _ ⟨tp, rfl, SqT.of upd_same⟩ ⟨by omega, hvl⟩ (((D9.trans d10).keep (Same.new htp)).mono (by omega))
    rintro σ' H9 ⟨rfl, D9⟩
    clear D8
    -- limit
    refine ⟨fun σ' H' => σ' = [some (.ref p), some sv, some (.int (t.made : Nat)), some (.ref D), some (.str nm), some (.str vl), some (.int (wy : Nat)), some (.int (z : Nat))] ∧ Drew p c H H' (n + 4), ?_, ?_⟩
    · obtain ⟨sa, ft, fx, rfl, g1, g2, g3⟩ := hS.ts (TS.drew hp D9)
      have hr120 := okS.r
      refine ⟨_, rfl, rfl, _, rfl, ifb (fun _ => ?_) (fun _ => ⟨rfl, D9⟩)⟩
      refine ⟨_, rfl, _, rfl, _, _, _, _, rfl, rfl, g1, rfl, _, rfl, _, _, _, _, rfl, rfl, g1, rfl, by show 6 ≤ sizeLine; decide, fun l hl => pick_new D9.pen hl (by simp) (by show 6 ≤ 1000; decide) (by omega) fun x H10 hx d10 => ?_⟩
      obtain ⟨k, rfl, hk⟩ : ∃ z : Nat, x = .int (z : Nat) ∧ z ≤ 9999 := by
        simp only [List.mem_cons, List.not_mem_nil, or_false] at hx
        rcases hx with h | h | h | h | h | h
        · exact ⟨r, h, by omega⟩
        · exact ⟨r, h, by omega⟩
        · exact ⟨12, h, by omega⟩
        · exact ⟨6, h, by omega⟩
        · exact ⟨0, h, by omega⟩
        · exact ⟨18, h, by omega⟩
      refine ⟨by show 2 ≤ sizeLine; decide, fun tp htp => ?_⟩
      exact q _ (.limit k) _ ⟨tp, rfl, SqT.of upd_same⟩ hk (((D9.trans d10).keep (Same.new htp)).mono (by omega))
    rintro σ' H10 ⟨rfl, D10⟩
    clear D9
    -- what cannot be
    refine ⟨fun σ' H' => σ' = [some (.ref p), some sv, some (.int (t.made : Nat)), some (.ref D), some (.str nm), some (.str vl), some (.int (wy : Nat)), some (.int (z : Nat))] ∧ Drew p c H H' (n + 5), ?_, ?_⟩
    · refine ⟨_, rfl, rfl, _, rfl, ifb (fun _ => ?_) (fun _ => ⟨rfl, D10.mono (by omega)⟩)⟩
      refine ⟨_, rfl, take_n 4 D10.pen (by decide) (by decide) (by omega) fun k H11 hk d11 => ⟨rfl, _, rfl, ifb (fun _ => ?_) (fun _ => ⟨rfl, D10.trans d11⟩)⟩⟩
      have D11 := D10.trans d11
      have hr120 := okS.r
      have hS11 := hS.ts (TS.drew hp D11)
      refine ⟨_, rfl, by show 2 ≤ sizeLine; decide, fun t1 h1 => ?_⟩
      have s1 := Same.new (o := .tup [.str "again", .int 5]) h1
      refine ⟨by show 3 ≤ sizeLine; decide, fun t2 h2 => ?_⟩
      have s2 := Same.new (o := .tup [.str "fixed", .int 9, .str "x"]) h2
      obtain ⟨sa, ft, fx, rfl, g1, g2, g3⟩ := hS11.ts (.of (s1.trans s2))
      refine ⟨_, rfl, _, _, _, _, rfl, rfl, g1, rfl, _, _, rfl, rfl, by show 2 ≤ sizeLine; decide, fun t3 h3 => ?_⟩
      have s3 := Same.new (o := .tup [.str "limit", .int ((r : Int) + 1)]) h3
      refine ⟨by show 3 ≤ sizeLine; decide, fun t4 h4 => ?_⟩
      have s4 := Same.new (o := .tup [.str "entry", .int 4, .str ""]) h4
      have e1 : SqT K _ t1 [.str "again", .int 5] := ((s2.trans s3).trans s4).tup (SqT.of upd_same)
      have e2 : SqT K _ t2 [.str "fixed", .int 9, .str "x"] := (s3.trans s4).tup (SqT.of upd_same)
      have e3 : SqT K _ t3 [.str "limit", .int ((r : Int) + 1)] := s4.tup (SqT.of upd_same)
      have e4 : SqT K (upd (upd (upd (upd H11 t1 (.tup [.str "again", .int 5])) t2 (.tup [.str "fixed", .int 9, .str "x"])) t3 (.tup [.str "limit", .int ((r : Int) + 1)])) t4 (.tup [.str "entry", .int 4, .str ""])) t4 [.str "entry", .int 4, .str ""] := SqT.of upd_same
      have P12 := D11.pen.keep (((s1.trans s2).trans s3).trans s4)
      have b12 := D11.but.trans (But.of (((s1.trans s2).trans s3).trans s4))
      generalize upd (upd (upd (upd H11 t1 (.tup [.str "again", .int 5])) t2 (.tup [.str "fixed", .int 9, .str "x"])) t3 (.tup [.str "limit", .int ((r : Int) + 1)])) t4 (.tup [.str "entry", .int 4, .str ""]) = H12 at e1 e2 e3 e4 P12 b12 ⊢
      refine ⟨by show 4 ≤ sizeLine; decide, fun l hl => pick_new P12 hl (by simp) (by show 4 ≤ 1000; decide) (by omega) fun x H13 hx d13 => ?_⟩
      have t13 := TS.drew P12 d13
      have fin : ∀ i : Ins, i.Ok → InsV K H13 x i → Q x H13 := fun i ok hv => q x i H13 hv ok ⟨d13.pen.mono (by omega), b12.trans d13.but⟩
      simp only [List.mem_cons, List.not_mem_nil, or_false] at hx
      rcases hx with h | h | h | h
      · exact fin (.again 5) (by show 5 ≤ 9999; omega) ⟨t1, h, t13.tup e1⟩
      · exact fin (.fixed 9 "x") ⟨by omega, by decide +kernel⟩ ⟨t2, h, t13.tup e2⟩
      · exact fin (.limit (r + 1)) (by show r + 1 ≤ 9999; omega) ⟨t3, h, t13.tup e3⟩
      · exact fin (.entry 4 "") ⟨by omega, by decide +kernel⟩ ⟨t4, h, t13.tup e4⟩
    rintro σ' H11 ⟨rfl, D11⟩
    refine ⟨_, rfl, _, rfl, by show 3 ≤ sizeLine; decide, fun tp htp => ?_⟩
    exact q _ (.new nm vl) _ ⟨tp, rfl, SqT.of upd_same⟩ ⟨hnm, hvl⟩ ((D11.keep (Same.new htp)).mono (by omega))

theorem ok_law_u_block (T : Txt K mg) : FnOk P w K mg base CX0 4 T.f_law_u_block T.d_law_u_block ["pen", "fits", "entries", "count"] (sp_u_block K) := by
  refine T.F_law_u_block.ok sc_law_u_block (fun vs H Q E h => ?_) (fun cdv A outer s H vs Q E hr h => ?_)
  · obtain ⟨p, c, e, n, cnt, sv, ks, rfl, _⟩ := h
    rfl
  · obtain ⟨p, c, e, n, cnt, sv, ks, rfl, hp, hn, he, nep, hks, hkl, hcnt, q⟩ := h
    have hud : (A.deeper (envOfC "_law_u_block" (defScope s_law_u_block) s.heap.objs.size T.f_law_u_block cdv)).units + 64 < cLine := by have := hr.un; omega
    refine ⟨_, (pss_cons (ps_set (i := 4) sc_law_u_block.nd rfl (Or.inl rfl) (pe_lst pa_nil))
      (pss_cons (ps_for PassesOwn.never rfl (pi_range1 rfl T.z_range (pa_cons (pe_call (ok_law_take T) (hr.mono (by decide)) rfl T.g_law_take T.F_law_take.kp T.b_law_take .nil pass0 (pa_cons (pv 0) (pa_cons pe_int pa_nil))) pa_nil)) (pg_name (i := 5) sc_law_u_block.nd rfl (Or.inl rfl))
        (pss_cons (ps_par (i := 6) (j := 7) rfl sc_law_u_block.nd rfl rfl (by decide) rfl rfl (pa_cons (pe_call (ok_law_u_pick T) (hr.mono (by decide)) rfl T.g_law_u_pick T.F_law_u_pick.kp T.b_law_u_pick .nil pass0 (pa_cons (pv 0) (pa_cons (pe_lst (pa_cons pe_str (pa_cons pe_str (pa_cons pe_str pa_nil)))) pa_nil))) (pa_cons (pe_call (ok_law_take T) (hr.mono (by decide)) rfl T.g_law_take T.F_law_take.kp T.b_law_take .nil pass0 (pa_cons (pv 0) (pa_cons pe_int pa_nil))) pa_nil)) (by rfl))
      (pss_one (ps_if (PW.pt (pw_and (pt_cmpR op_lt (pv 7) pe_int (nomark _)) (pw_and1 (pt_cmpR (op_neD hud) (pv 2) (pe_lst pa_nil) (nomark _))))) (pss_one (ps_expr (pe_bm PySem.F.plainAttrs_list PySem.F.slot_list_append PySem.F.type_list_append mt_append (pv 4) (pa_cons (pe_op op_catA (pe_tup (pa_cons pe_str (pa_cons (pe_call (ok_law_u_pick T) (hr.mono (by decide)) rfl T.g_law_u_pick T.F_law_u_pick.kp T.b_law_u_pick .nil pass0 (pa_cons (pv 0) (pa_cons (pv 2) pa_nil))) pa_nil))) (pe_op op_repZ (pe_tup (pa_cons (pv 6) pa_nil)) (pe_callTy call_int1 rfl T.z_int boot_int (pa_cons (pe_cmpR op_eq (pv 7) pe_int (nomark _)) pa_nil)))) pa_nil)))) (pss_one (ps_if (pt_cmpR op_eq (pv 7) pe_int (nomark _)) (pss_one (ps_expr (pe_bm PySem.F.plainAttrs_list PySem.F.slot_list_append PySem.F.type_list_append mt_append (pv 4) (pa_cons (pe_tup (pa_cons pe_str (pa_cons (pe_call (ok_law_u_pick T) (hr.mono (by decide)) rfl T.g_law_u_pick T.F_law_u_pick.kp T.b_law_u_pick .nil pass0 (pa_cons (pv 0) (pa_cons (pe_lst (pa_cons pe_int (pa_cons pe_int (pa_cons pe_int (pa_cons pe_int (pa_cons pe_int (pa_cons pe_int pa_nil))))))) pa_nil))) pa_nil))) pa_nil)))) (pss_one (ps_expr (pe_bm PySem.F.plainAttrs_list PySem.F.slot_list_append PySem.F.type_list_append mt_append (pv 4) (pa_cons (pe_tup (pa_cons pe_str (pa_cons (pe_call (ok_law_u_pick T) (hr.mono (by decide)) rfl T.g_law_u_pick T.F_law_u_pick.kp T.b_law_u_pick .nil pass0 (pa_cons (pv 0) (pa_cons (pe_lst (pa_cons pe_str (pa_cons pe_str pa_nil))) pa_nil))) (pa_cons (pv 6) pa_nil)))) pa_nil))))))))))
      (pss_cons (ps_set (i := 8) sc_law_u_block.nd rfl (Or.inl rfl) (pe_callB (cr_max rfl) rfl T.z_max boot_max (pa_cons (pe_op op_cat (pe_lc (own := [("line", 9)]) (g := (gName 9))  rfl sc_law_u_block.nd (pi_list (pv 4)) (blkOk_by (own := [("line", 9)]) (N := ["pen", "fits", "entries", "count", "lines", "turn", "value", "way", "required", "line"]) (sc := defScope s_law_u_block) (by decide +kernel)) (fun _ _ _ _ _ => (pg_name (i := 9) sc_law_u_block.nd rfl (Or.inl rfl))) (fun _ _ _ _ _ => pts_one (pt_cmpR op_eq (pe_ix (ixK (K := K) (r := rIxT) ix_tup) (pv 9) pe_int (fun _ _ => rfl)) pe_str (nomark _))) (fun _ _ _ _ _ => (pe_op op_add (pe_ix (ixK (K := K) (r := rIxT) ix_tup) (pv 9) pe_int (fun _ _ => rfl)) pe_int))) (pe_lst (pa_cons pe_int pa_nil))) pa_nil)))
      (Evl.pss_cut (ps_if (pt_cmpR op_eq (pe_call (ok_law_take T) (hr.mono (by decide)) rfl T.g_law_take T.F_law_take.kp T.b_law_take .nil pass0 (pa_cons (pv 0) (pa_cons pe_int pa_nil))) pe_int (nomark _)) (pss_one (ps_set (i := 8) sc_law_u_block.nd rfl (Or.inl rfl) (pe_callB (call_max2 rfl) rfl T.z_max boot_max (pa_cons (pv 8) (pa_cons (pv 3) pa_nil))))) pss_nil)
      (pss_one (ps_ret (pe_tup (pa_cons (pv 8) (pa_cons (pe_call (ok_law_take T) (hr.mono (by decide)) rfl T.g_law_take T.F_law_take.kp T.b_law_take .nil pass0 (pa_cons (pv 0) (pa_cons (pe_op op_add (pv 8) pe_int) pa_nil))) (pa_cons (pe_callTy call_tuple_of rfl T.z_tuple boot_tuple (pa_cons (pv 4) pa_nil)) pa_nil)))))))))), ?_⟩
    refine ⟨by show 0 ≤ sizeLine; decide, fun L hL => ?_⟩
    have s1 := Same.new (o := .lst []) hL
    have hLp : L ≠ p := Ne.symm (hp.ne hL)
    have hLc := hp.nec hL
    have gL1 : upd H L (.lst []) L = some (.lst []) := upd_same
    have P1 := hp.keep s1
    have b1 : But p H (upd H L (.lst [])) := But.of s1
    generalize upd H L (.lst []) = H1 at s1 gL1 P1 b1 ⊢
    refine ⟨_, rfl, take_n 4 P1 (by decide) (by decide) (by omega) fun k H2 hk d2 => ?_⟩
    refine ⟨_, rfl, by omega, by omega, ?_⟩
    rw [Int.toNat_natCast]
    refine for_range (lo := 0) (n := k) (fun i σ H' => ∃ (v5 v6 v7 : Option V) (xs : List V) (ls : List Ln), σ = [some (.ref p), some sv, some (.ref e), some (.int (cnt : Nat)), some (.ref L), v5, v6, v7, none, none] ∧ Pen H' p c (n + 1 + 3 * i) ∧ But p H H' ∧ H' L = some (.lst xs) ∧ LnsV K H' xs ls ∧ (∀ l ∈ ls, l.Ok 9001) ∧ ls.length = i)
      ⟨none, none, none, [], [], rfl, d2.pen.mono (by omega), b1.trans d2.but, d2.but _ _ hLp gL1, .nil, fun _ h => (nomatch h), rfl⟩ ?_ ?_
    · rintro i σ H3 hi ⟨v5, v6, v7, xs, ls, rfl, P3, B3, gL3, hls, okl, hil⟩
      have hxl := hls.len
      refine ⟨_, rfl, by show 3 ≤ sizeLine; decide, fun l hl => pick_new P3 hl (by simp) (by show 3 ≤ 1000; decide) (by omega) fun x H4 hx d4 => ?_⟩
      obtain ⟨vl, rfl, hvl⟩ := value_of3 hx
      refine ⟨_, rfl, take_n 5 d4.pen (by decide) (by decide) (by omega) fun wy H5 hwy d5 => ?_⟩
      refine ⟨_, _, rfl, ?_⟩
      have D5 := d4.trans d5
      have P5 := D5.pen
      have B5 := B3.trans D5.but
      have gL5 := D5.but _ _ hLp gL3
      have hls5 := LnsV.ts (TS.drew P3 D5) hls
      clear d4 d5 D5 hx
      -- a line more
      have fin : ∀ (N : Nat) (v : V) (l : Ln) (H' : Hp) (v5' v6' v7' : Option V), N ≤ n + 1 + 3 * (i + 1) → Drew p c H5 H' N → LnV K H' v l → l.Ok 9001 → ∃ (v5 v6 v7 : Option V) (xs' : List V) (ls' : List Ln), [some (V.ref p), some sv, some (.ref e), some (.int (cnt : Nat)), some (.ref L), v5', v6', v7', none, none] = [some (V.ref p), some sv, some (.ref e), some (.int (cnt : Nat)), some (.ref L), v5, v6, v7, none, none] ∧ Pen (upd H' L (.lst (xs ++ [v]))) p c (n + 1 + 3 * (i + 1)) ∧ But p H (upd H' L (.lst (xs ++ [v]))) ∧ upd H' L (.lst (xs ++ [v])) L = some (.lst xs') ∧ LnsV K (upd H' L (.lst (xs ++ [v]))) xs' ls' ∧ (∀ l ∈ ls', l.Ok 9001) ∧ ls'.length = i + 1 := by
        intro N v l H' v5' v6' v7' hN d hv ok
        have g := d.but _ _ hLp gL5
        have tL : TS H' (upd H' L (.lst (xs ++ [v]))) := TS.at g nt_lst
        refine ⟨_, _, _, _, ls ++ [l], rfl, (penL d.pen hLp (Ne.symm hLc)).mono hN, (B5.trans d.but).put hL, upd_same, lns_app (hv.ts tL) (LnsV.ts ((TS.drew P5 d).trans tL) hls5), fun j hj => ?_, by rw [List.length_append, hil]; rfl⟩
        rcases List.mem_append.mp hj with z | z
        · exact okl j z
        · rw [List.mem_singleton.mp z]; exact ok
      have sz : (xs.length : Nat) < sizeLine := by rw [sizeLine_eq]; omega
      refine ⟨_, rfl, _, _, rfl, rfl, _, rfl, ifb (fun _ => ?_) (fun _ => ?_)⟩
      · have he5 : SqL K H5 e (natV ks) := B5.seq nep he
        refine ⟨_, rfl, by show 0 ≤ sizeLine; decide, fun t0 ht0 => ?_⟩
        have s6 := Same.new (o := .lst []) ht0
        refine ⟨.list (natD ks), .list [], .lst (s6.seq he5) (dp_nats ks), .lst (SqL.of upd_same) .nil, nats_shaped ks, rfl, _, rfl, ifb (fun hne => ?_) (fun _ => ?_)⟩
        · have hne' : natV ks ≠ [] := fun z => by
            have : ks = [] := List.map_eq_nil_iff.mp z
            rw [this] at hne; cases hne
          have D6 : Drew p c H5 (upd H5 t0 (.lst [])) _ := ⟨P5.keep s6, But.of s6⟩
          have he6 := s6.seq he5
          generalize upd H5 t0 (.lst []) = H6 at D6 he6 ⊢
          refine ⟨_, rfl, .inl ⟨rfl, _, SqL.of (D6.but _ _ hLp gL5)⟩, ?_⟩
          refine ⟨_, rfl, _, rfl, p, c, e, _, _, rfl, D6.pen, he6, nep, hne', by rw [natV_len]; exact hkl, by omega, fun x H7 hx d7 => ?_⟩
          obtain ⟨m, hm, rfl⟩ := List.mem_map.mp hx
          have hm9 := hks m hm
          have D7 := D6.trans d7
          refine ⟨by show 2 ≤ sizeLine; decide, fun t1 ht1 => ?_⟩
          have s8 := Same.new (o := .tup [.str "entry", .int (m : Nat)]) ht1
          have e8 : SqT K (upd H7 t1 (.tup [.str "entry", .int (m : Nat)])) t1 [.str "entry", .int (m : Nat)] := SqT.of upd_same
          have D8 := D7.keep s8
          generalize upd H7 t1 (.tup [.str "entry", .int (m : Nat)]) = H8 at e8 D8 ⊢
          refine ⟨_, rfl, by show 1 ≤ sizeLine; decide, fun t2 ht2 => ?_⟩
          have s9 := Same.new (o := .tup [.str vl]) ht2
          have e9 : SqT K (upd H8 t2 (.tup [.str vl])) t2 [.str vl] := SqT.of upd_same
          have e89 := s9.tup e8
          have D9 := D8.keep s9
          generalize upd H8 t2 (.tup [.str vl]) = H9 at e9 e89 D9 ⊢
          refine ⟨_, rfl, rfl, .inr ⟨_, rfl, t2, decide (V.int (wy : Nat) = V.int 2), [.str vl], rfl, rfl, e9, by simp, fun _ => ?_, fun _ t3 ht3 => ?_⟩⟩
          · refine ⟨t1, t2, _, _, rfl, rfl, e89, e9, by show 2 + 1 ≤ sizeLine; decide, fun z => (nomatch z), fun _ z => (nomatch z), fun _ _ t4 ht4 => ?_⟩
            have s10 := Same.new (o := .tup ([.str "entry", .int (m : Nat)] ++ [.str vl])) ht4
            have D10 := D9.keep s10
            exact ⟨L, _, _, rfl, rfl, D10.but _ _ hLp gL5, sz, fin _ _ (.ent2 m vl) _ _ _ _ (by omega) D10 ⟨t4, rfl, SqT.of upd_same⟩ ⟨by omega, hvl⟩⟩
          · have s10 := Same.new (o := .tup []) ht3
            have D10 := D9.keep s10
            refine ⟨t1, t3, _, _, rfl, rfl, s10.tup e89, SqT.of upd_same, by show 2 + 0 ≤ sizeLine; decide, fun z => (nomatch z), fun _ _ => ?_, fun _ z => absurd rfl z⟩
            exact ⟨L, _, _, rfl, rfl, D10.but _ _ hLp gL5, sz, fin _ _ (.ent1 m) _ _ _ _ (by omega) D10 ⟨t1, rfl, s10.tup e89⟩ (by show m < 9001; omega)⟩
        · have D6 : Drew p c H5 (upd H5 t0 (.lst [])) _ := ⟨P5.keep s6, But.of s6⟩
          generalize upd H5 t0 (.lst []) = H6 at D6 ⊢
          refine ⟨_, rfl, rfl, _, rfl, ifb (fun _ => ?_) (fun _ => ?_)⟩
          · refine ⟨_, rfl, .inl ⟨rfl, _, SqL.of (D6.but _ _ hLp gL5)⟩, ?_⟩
            refine ⟨_, rfl, by show 6 ≤ sizeLine; decide, fun l hl => pick_new D6.pen hl (by simp) (by show 6 ≤ 1000; decide) (by omega) fun x H7 hx d7 => ?_⟩
            obtain ⟨m, rfl, hm⟩ : ∃ z : Nat, x = .int (z : Nat) ∧ z ≤ 9999 := by
              simp only [List.mem_cons, List.not_mem_nil, or_false] at hx
              rcases hx with h | h | h | h | h | h
              · exact ⟨0, h, by omega⟩
              · exact ⟨0, h, by omega⟩
              · exact ⟨0, h, by omega⟩
              · exact ⟨0, h, by omega⟩
              · exact ⟨1, h, by omega⟩
              · exact ⟨2, h, by omega⟩
            refine ⟨by show 2 ≤ sizeLine; decide, fun t1 ht1 => ?_⟩
            have D8 := (D6.trans d7).keep (Same.new (o := .tup [.str "fixed", .int (m : Nat)]) ht1)
            exact ⟨L, _, _, rfl, rfl, D8.but _ _ hLp gL5, sz, fin _ _ (.fix1 m) _ _ _ _ (by omega) D8 ⟨t1, rfl, SqT.of upd_same⟩ hm⟩
          · refine ⟨_, rfl, .inl ⟨rfl, _, SqL.of (D6.but _ _ hLp gL5)⟩, ?_⟩
            refine ⟨_, rfl, by show 2 ≤ sizeLine; decide, fun l hl => pick_new D6.pen hl (by simp) (by show 2 ≤ 1000; decide) (by omega) fun x H7 hx d7 => ?_⟩
            obtain ⟨nm, rfl, hnm⟩ : ∃ z : Str, x = .str z ∧ txt (.str z) 1 20 = true := by
              simp only [List.mem_cons, List.not_mem_nil, or_false] at hx
              rcases hx with h | h
              · exact ⟨"a", h, by decide +kernel⟩
              · exact ⟨"cc", h, by decide +kernel⟩
            refine ⟨_, rfl, by show 3 ≤ sizeLine; decide, fun t1 ht1 => ?_⟩
            have D8 := (D6.trans d7).keep (Same.new (o := .tup [.str "out", .str nm, .str vl]) ht1)
            exact ⟨L, _, _, rfl, rfl, D8.but _ _ hLp gL5, sz, fin _ _ (.out nm vl) _ _ _ _ (by omega) D8 ⟨t1, rfl, SqT.of upd_same⟩ ⟨hnm, hvl⟩⟩
      · have D6 : Drew p c H5 H5 _ := ⟨P5, But.refl _ _⟩
        refine ⟨_, rfl, rfl, _, rfl, ifb (fun _ => ?_) (fun _ => ?_)⟩
        · refine ⟨_, rfl, .inl ⟨rfl, _, SqL.of (D6.but _ _ hLp gL5)⟩, ?_⟩
          refine ⟨_, rfl, by show 6 ≤ sizeLine; decide, fun l hl => pick_new D6.pen hl (by simp) (by show 6 ≤ 1000; decide) (by omega) fun x H7 hx d7 => ?_⟩
          obtain ⟨m, rfl, hm⟩ : ∃ z : Nat, x = .int (z : Nat) ∧ z ≤ 9999 := by
            simp only [List.mem_cons, List.not_mem_nil, or_false] at hx
            rcases hx with h | h | h | h | h | h
            · exact ⟨0, h, by omega⟩
            · exact ⟨0, h, by omega⟩
            · exact ⟨0, h, by omega⟩
            · exact ⟨0, h, by omega⟩
            · exact ⟨1, h, by omega⟩
            · exact ⟨2, h, by omega⟩
          refine ⟨by show 2 ≤ sizeLine; decide, fun t1 ht1 => ?_⟩
          have D8 := (D6.trans d7).keep (Same.new (o := .tup [.str "fixed", .int (m : Nat)]) ht1)
          exact ⟨L, _, _, rfl, rfl, D8.but _ _ hLp gL5, sz, fin _ _ (.fix1 m) _ _ _ _ (by omega) D8 ⟨t1, rfl, SqT.of upd_same⟩ hm⟩
        · refine ⟨_, rfl, .inl ⟨rfl, _, SqL.of (D6.but _ _ hLp gL5)⟩, ?_⟩
          refine ⟨_, rfl, by show 2 ≤ sizeLine; decide, fun l hl => pick_new D6.pen hl (by simp) (by show 2 ≤ 1000; decide) (by omega) fun x H7 hx d7 => ?_⟩
          obtain ⟨nm, rfl, hnm⟩ : ∃ z : Str, x = .str z ∧ txt (.str z) 1 20 = true := by
            simp only [List.mem_cons, List.not_mem_nil, or_false] at hx
            rcases hx with h | h
            · exact ⟨"a", h, by decide +kernel⟩
            · exact ⟨"cc", h, by decide +kernel⟩
          refine ⟨_, rfl, by show 3 ≤ sizeLine; decide, fun t1 ht1 => ?_⟩
          have D8 := (D6.trans d7).keep (Same.new (o := .tup [.str "out", .str nm, .str vl]) ht1)
          exact ⟨L, _, _, rfl, rfl, D8.but _ _ hLp gL5, sz, fin _ _ (.out nm vl) _ _ _ _ (by omega) D8 ⟨t1, rfl, SqT.of upd_same⟩ ⟨hnm, hvl⟩⟩
    rintro σ H3 ⟨v5, v6, v7, xs, ls, rfl, P3, B3, gL3, hls, okl, hil⟩
    have hxl := hls.len
    -- required
    refine ⟨_, rfl, L, rfl, ⟨_, SqL.of gL3⟩, fun D hD => ?_⟩
    have nDL : D ≠ L := fun z => by rw [z, gL3] at hD; cases hD
    refine lc_genF (walk_list (xs := xs)) (fun j zs H' => (∀ b o, b ≠ D → H3 b = some o → H' b = some o) ∧ ∃ ms : List Nat, zs = natV ms ∧ (∀ m ∈ ms, m ≤ 9001) ∧ ∀ l ∈ ls.take j, lnReq l = 0 ∨ lnReq l ∈ ms) (by omega) ⟨fun b o nb e => by rw [upd_ne nb]; exact e, [], rfl, fun _ h => (nomatch h), fun _ h => (nomatch h)⟩ (fun j zs H' I => SqL.of (I.1 _ _ (Ne.symm nDL) gL3)) ?_ ?_
    · rintro j zs x H' H'' Q' Z hj hlz gD ⟨hk3, ms, rfl, hms, hreq⟩ ⟨rfl, hx⟩ q' qz
      obtain ⟨l, hl1, ta, rfl, hta⟩ := hls.at_ hx
      have sH : Same H3 H'' := fun b o e => hk3 b o (fun z => by rw [z, hD] at e; cases e) e
      have hta' := sH.tup hta
      have okl1 := okl l (List.mem_of_getElem? hl1)
      have eT : ls.take (j + 1) = ls.take j ++ [l] := by rw [List.take_add_one, hl1]; rfl
      have skip : lnReq l = 0 → Z H'' := fun h0 => qz H'' gD ⟨hk3, ms, rfl, hms, fun l' hl' => by
        rw [eT] at hl'
        rcases List.mem_append.mp hl' with h | h
        · exact hreq l' h
        · rw [List.mem_singleton.mp h]; exact .inl h0⟩
      have more : ∀ m : Nat, m ≤ 9000 → lnReq l = m + 1 → Q' (.int ((m : Int) + 1)) H'' := fun m hm hr => q' _ H'' gD ⟨fun b o nb eb => by rw [upd_ne nb]; exact hk3 b o nb eb, ms ++ [m + 1], by rw [natV, natV, List.map_append]; rfl, fun z hz => by
        rcases List.mem_append.mp hz with h | h
        · exact hms z h
        · rw [List.mem_singleton.mp h]; omega, fun l' hl' => by
        rw [eT] at hl'
        rcases List.mem_append.mp hl' with h | h
        · rcases hreq l' h with h | h
          · exact .inl h
          · exact .inr (List.mem_append.mpr (.inl h))
        · rw [List.mem_singleton.mp h, hr]; exact .inr (List.mem_append.mpr (.inr (List.mem_singleton.mpr rfl)))⟩
      refine ⟨rfl, ?_⟩
      cases l with
      | fix1 m => exact ⟨_, rfl, _, _, _, _, rfl, rfl, hta', rfl, rfl, _, rfl, ifF (by decide) (skip rfl)⟩
      | fix2 m x => exact ⟨_, rfl, _, _, _, _, rfl, rfl, hta', rfl, rfl, _, rfl, ifF (by decide) (skip rfl)⟩
      | out y x => exact ⟨_, rfl, _, _, _, _, rfl, rfl, hta', rfl, rfl, _, rfl, ifF (by decide) (skip rfl)⟩
      | ent1 m => exact ⟨_, rfl, _, _, _, _, rfl, rfl, hta', rfl, rfl, _, rfl, ifT (by decide) ⟨_, rfl, _, _, _, _, rfl, rfl, hta', rfl, _, _, rfl, rfl, more m (by have h : m < 9001 := okl1; omega) rfl⟩⟩
      | ent2 m x => exact ⟨_, rfl, _, _, _, _, rfl, rfl, hta', rfl, rfl, _, rfl, ifT (by decide) ⟨_, rfl, _, _, _, _, rfl, rfl, hta', rfl, _, _, rfl, rfl, more m (by have h : m < 9001 := okl1.1; omega) rfl⟩⟩
    · rintro zs H4 hlz gD ⟨hk3, ms, rfl, hms, hreq⟩
      have sH : Same H3 H4 := fun b o e => hk3 b o (fun z => by rw [z, hD] at e; cases e) e
      rw [List.take_of_length_le (by omega)] at hreq
      rw [natV_len] at hlz
      refine ⟨by show 1 ≤ sizeLine; decide, fun l0 hl0 => ?_⟩
      have s5 := Same.new (o := .lst [.int 0]) hl0
      refine ⟨D, l0, _, _, rfl, rfl, s5 _ _ gD, upd_same, by rw [natV_len]; show ms.length + 1 ≤ sizeLine; rw [sizeLine_eq]; omega, fun l2 hl2 => ?_⟩
      have s6 := Same.new (o := .lst (natV ms ++ [.int 0])) hl2
      have eL : natV ms ++ [V.int 0] = (ms.map (fun (k : Nat) => (k : Int)) ++ [0]).map V.int := by
        rw [List.map_append, List.map_map]; rfl
      have g6 : upd (upd H4 l0 (.lst [.int 0])) l2 (.lst (natV ms ++ [.int 0])) l2 = some (.lst ((ms.map (fun (k : Nat) => (k : Int)) ++ [0]).map V.int)) := by rw [← eL]; exact upd_same
      refine ⟨l2, ms.map (fun (k : Nat) => (k : Int)) ++ [0], rfl, SqL.of g6, by simp, fun m hm hmax => ?_⟩
      have s36 := (sH.trans s5).trans s6
      obtain ⟨R, rfl, hR, hRm⟩ : ∃ R : Nat, m = (R : Int) ∧ R ≤ 9001 ∧ ∀ k ∈ ms, k ≤ R := by
        have hall : ∀ k ∈ ms, (k : Int) ≤ m := fun k hk => hmax _ (List.mem_append.mpr (.inl (List.mem_map.mpr ⟨k, hk, rfl⟩)))
        rcases List.mem_append.mp hm with h | h
        · obtain ⟨k, hk, rfl⟩ := List.mem_map.mp h
          exact ⟨k, rfl, hms k hk, fun j hj => by have := hall j hj; omega⟩
        · have e0 : m = 0 := List.mem_singleton.mp h
          subst e0
          exact ⟨0, rfl, by omega, fun j hj => by have := hall j hj; omega⟩
      have okR : ∀ l ∈ ls, lnReq l ≤ R := fun l hl => by
        rcases hreq l hl with h | h
        · omega
        · exact hRm _ h
      have D6 : Drew p c H (upd (upd H4 l0 (.lst [.int 0])) l2 (.lst (natV ms ++ [.int 0]))) (n + 1 + 3 * k) := ⟨P3.keep s36, B3.trans (But.of s36)⟩
      have gL6 := s36 _ _ gL3
      have hls6 := LnsV.ts (.of s36) hls
      generalize upd (upd H4 l0 (.lst [.int 0])) l2 (.lst (natV ms ++ [.int 0])) = H6 at D6 gL6 hls6 ⊢
      clear s36 g6 s6 s5 sH gD hm hmax hreq hms hRm eL
      refine ⟨fun σ' H' => ∃ R' : Nat, σ' = [some (.ref p), some sv, some (.ref e), some (.int (cnt : Nat)), some (.ref L), v5, v6, v7, some (.int (R' : Nat)), none] ∧ R ≤ R' ∧ R' ≤ 9001 ∧ Drew p c H6 H' (n + 20), ?_, ?_⟩
      · refine ⟨_, rfl, take_n 8 D6.pen (by decide) (by decide) (by omega) fun z H7 hz d7 => ⟨rfl, _, rfl, ifb (fun _ => ?_) (fun _ => ?_)⟩⟩
        · refine ⟨_, rfl, _, rfl, _, _, rfl, ?_⟩
          refine ⟨if cnt > R then cnt else R, ?_, ?_, ?_, d7.mono (by omega)⟩
          · have : (if (cnt : Int) > (R : Int) then (cnt : Int) else (R : Int)) = ((if cnt > R then cnt else R : Nat) : Int) := by split <;> split <;> omega
            rw [← this]; rfl
          · split <;> omega
          · split <;> omega
        · exact ⟨R, rfl, Nat.le_refl _, hR, d7.mono (by omega)⟩
      · rintro σ' H7 ⟨R', rfl, hRR, hR9, d7⟩
        refine ⟨_, rfl, _, rfl, _, rfl, _, _, rfl, rfl, take_n (R' + 1) d7.pen (by omega) (by omega) (by omega) fun b H8 hb d8 => ?_⟩
        have D8 := d7.trans d8
        have gL8 := D8.but _ _ hLp gL6
        have hls8 := LnsV.ts (TS.drew D6.pen D8) hls6
        refine ⟨_, rfl, L, _, rfl, .inl ⟨SqL.of gL8, fun t ht => ?_⟩⟩
        have s9 := Same.new (o := .tup xs) ht
        have e9 : SqT K (upd H8 t (.tup xs)) t xs := SqT.of upd_same
        have hls9 := LnsV.ts (.of s9) hls8
        have D9 := D8.keep s9
        generalize upd H8 t (.tup xs) = H9 at e9 hls9 D9 ⊢
        refine ⟨by show 3 ≤ sizeLine; decide, fun bt hbt => ?_⟩
        have s10 := Same.new (o := .tup [.int (R' : Nat), .int (b : Nat), .ref t]) hbt
        exact q _ ⟨R', b, ls⟩ _ ⟨bt, t, xs, rfl, SqT.of upd_same, s10.tup e9, LnsV.ts (.of s10) hls9⟩ ⟨by show R' ≤ 9999; omega, by show b ≤ R'; omega, by show ls.length ≤ 16; omega, fun l hl => ln_okreq (okl l hl) (Nat.le_trans (okR l hl) hRR)⟩ (by show ls.length ≤ 3; omega) ((Drew.then (n := 0) D6.but (D9.keep s10)).mono (by omega))

theorem ok_law_u_events (T : Txt K mg) : FnOk P w K mg base CX0 9 T.f_law_u_events T.d_law_u_events ["pen", "fits", "many"] (sp_u_events K) := by
  refine T.F_law_u_events.ok sc_law_u_events (fun vs H Q E h => ?_) (fun cdv A outer s H vs Q E hr h => ?_)
  · obtain ⟨p, c, n, m, sv, F, r, w, rfl, _⟩ := h
    rfl
  · obtain ⟨p, c, n, m, sv, F, r, w, rfl, hp, hn, hm, hS, okS, q⟩ := h
    refine ⟨_, (pss_cons (ps_par (i := 3) (j := 4) rfl sc_law_u_events.nd rfl rfl (by decide) rfl rfl (pa_cons (pe_lst pa_nil) (pa_cons (pe_lst pa_nil) pa_nil)) (by rfl))
      (pss_cons (ps_for PassesOwn.never rfl (pi_range1 rfl T.z_range (pa_cons (pv 2) pa_nil)) (pg_name (i := 5) sc_law_u_events.nd rfl (Or.inl rfl))
        (pss_cons (ps_asg (pe_call (ok_law_u_behind T) (hr.mono (by decide)) rfl T.g_law_u_behind T.F_law_u_behind.kp T.b_law_u_behind .nil pass0 (pa_cons (pv 1) (pa_cons (pv 3) pa_nil))) (pg_tup rfl (pgs_cons (pg_name (i := 6) sc_law_u_events.nd rfl (Or.inl rfl)) (pgs_cons (pg_name (i := 7) sc_law_u_events.nd rfl (Or.inl rfl)) pgs_nil))))
      (pss_cons (ps_par (i := 8) (j := 9) rfl sc_law_u_events.nd rfl rfl (by decide) rfl rfl (pa_cons (pe_call (ok_law_take T) (hr.mono (by decide)) rfl T.g_law_take T.F_law_take.kp T.b_law_take .nil pass0 (pa_cons (pv 0) (pa_cons pe_int pa_nil))) (pa_cons (pe_call (ok_law_u_pick T) (hr.mono (by decide)) rfl T.g_law_u_pick T.F_law_u_pick.kp T.b_law_u_pick .nil pass0 (pa_cons (pv 0) (pa_cons (pe_lst (pa_cons pe_int (pa_cons pe_int (pa_cons pe_int (pa_cons pe_int (pa_cons pe_int (pa_cons pe_int pa_nil))))))) pa_nil))) pa_nil)) (by rfl))
      (pss_one (ps_if (pt_cmpR op_lt (pv 8) pe_int (nomark _)) (pss_cons (ps_set (i := 10) sc_law_u_events.nd rfl (Or.inl rfl) (pe_call (ok_law_u_instruction T) (hr.mono (by decide)) rfl T.g_law_u_instruction T.F_law_u_instruction.kp T.b_law_u_instruction .nil pass0 (pa_cons (pv 0) (pa_cons (pv 1) (pa_cons (pv 6) (pa_cons (pv 7) pa_nil))))))
      (pss_one (ps_if (pt_cmpR op_notN (pe_call (ok_law_u_behind T) (hr.mono (by decide)) rfl T.g_law_u_behind T.F_law_u_behind.kp T.b_law_u_behind .nil pass0 (pa_cons (pv 1) (pa_cons (pe_op op_cat (pv 3) (pe_lst (pa_cons (pv 10) pa_nil))) pa_nil))) pe_non (nomark _)) (pss_cons (ps_expr (pe_bm PySem.F.plainAttrs_list PySem.F.slot_list_append PySem.F.type_list_append mt_append (pv 3) (pa_cons (pv 10) pa_nil)))
      (pss_one (ps_expr (pe_bm PySem.F.plainAttrs_list PySem.F.slot_list_append PySem.F.type_list_append mt_append (pv 4) (pa_cons (pe_tup (pa_cons pe_str (pa_cons (pv 10) pa_nil))) pa_nil))))) (pss_one (ps_if (pt_cmpR op_eq (pe_call (ok_law_take T) (hr.mono (by decide)) rfl T.g_law_take T.F_law_take.kp T.b_law_take .nil pass0 (pa_cons (pv 0) (pa_cons pe_int pa_nil))) pe_int (nomark _)) (pss_one (ps_expr (pe_bm PySem.F.plainAttrs_list PySem.F.slot_list_append PySem.F.type_list_append mt_append (pv 4) (pa_cons (pe_tup (pa_cons pe_str (pa_cons (pv 10) pa_nil))) pa_nil)))) pss_nil))))) (pss_one (ps_if (pt_cmpR op_lt (pv 8) pe_int (nomark _)) (Evl.pss_cut (ps_set (i := 11) sc_law_u_events.nd rfl (Or.inl rfl) (pe_ifExp (pt_cmpR op_gt (pe_call (ok_law_take T) (hr.mono (by decide)) rfl T.g_law_take T.F_law_take.kp T.b_law_take .nil pass0 (pa_cons (pv 0) (pa_cons pe_int pa_nil))) pe_int (nomark _)) (pe_callB (call_sortedDI rfl) rfl T.z_sorted boot_sorted (pa_cons (pv 7) pa_nil)) (pe_listRg rfl rfl T.z_list (prg_1 rfl T.z_range (pe_op op_add (pv 6) pe_int)))))
      (pss_one (ps_expr (pe_bm PySem.F.plainAttrs_list PySem.F.slot_list_append PySem.F.type_list_append mt_append (pv 4) (pa_cons (pe_tup (pa_cons pe_str (pa_cons (pv 9) (pa_cons (pe_call (ok_law_u_block T) (hr.mono (by decide)) rfl T.g_law_u_block T.F_law_u_block.kp T.b_law_u_block .nil pass0 (pa_cons (pv 0) (pa_cons (pv 1) (pa_cons (pv 11) (pa_cons (pv 6) pa_nil))))) pa_nil)))) pa_nil))))) (pss_one (ps_if (pt_cmpR op_lt (pv 8) pe_int (nomark _)) (pss_one (ps_expr (pe_bm PySem.F.plainAttrs_list PySem.F.slot_list_append PySem.F.type_list_append mt_append (pv 4) (pa_cons (pe_tup (pa_cons pe_str (pa_cons (pe_call (ok_law_u_pick T) (hr.mono (by decide)) rfl T.g_law_u_pick T.F_law_u_pick.kp T.b_law_u_pick .nil pass0 (pa_cons (pv 0) (pa_cons (pe_lst (pa_cons (pe_tup (pa_cons pe_str (pa_cons (pv 9) pa_nil))) (pa_cons (pe_tup (pa_cons pe_str (pa_cons (pv 9) pa_nil))) (pa_cons (pe_tup (pa_cons pe_str (pa_cons pe_int pa_nil))) pa_nil)))) pa_nil))) pa_nil))) pa_nil)))) (pss_one (ps_if (pt_cmpR op_eq (pe_call (ok_law_take T) (hr.mono (by decide)) rfl T.g_law_take T.F_law_take.kp T.b_law_take .nil pass0 (pa_cons (pv 0) (pa_cons pe_int pa_nil))) pe_int (nomark _)) (pss_one (ps_expr (pe_bm PySem.F.plainAttrs_list PySem.F.slot_list_append PySem.F.type_list_append mt_append (pv 4) (pa_cons (pe_tup (pa_cons pe_str (pa_cons (pe_call (ok_law_u_pick T) (hr.mono (by decide)) rfl T.g_law_u_pick T.F_law_u_pick.kp T.b_law_u_pick .nil pass0 (pa_cons (pv 0) (pa_cons (pe_lst (pa_cons (pe_tup (pa_cons pe_str (pa_cons (pv 9) pa_nil))) (pa_cons (pe_tup (pa_cons pe_str (pa_cons pe_int pa_nil))) (pa_cons (pe_lst pa_nil) (pa_cons (pe_lst (pa_cons pe_int pa_nil)) (pa_cons (pe_lst (pa_cons pe_int (pa_cons pe_int pa_nil))) pa_nil)))))) pa_nil))) pa_nil))) pa_nil)))) (pss_cons (ps_set (i := 11) sc_law_u_events.nd rfl (Or.inl rfl) (pe_lst (pa_cons (pe_tup (pa_cons pe_str (pa_cons (pe_lst (pa_cons pe_int pa_nil)) pa_nil))) (pa_cons (pe_tup (pa_cons pe_str (pa_cons (pe_lst (pa_cons pe_int pa_nil)) pa_nil))) (pa_cons (pe_tup (pa_cons pe_str (pa_cons (pe_lst (pa_cons pe_int (pa_cons pe_int (pa_cons pe_int (pa_cons pe_int (pa_cons pe_int pa_nil)))))) pa_nil))) (pa_cons (pe_tup (pa_cons pe_str (pa_cons (pv 9) (pa_cons (pe_lst (pa_cons pe_int pa_nil)) pa_nil)))) pa_nil))))))
      (pss_cons (ps_set (i := 11) sc_law_u_events.nd rfl (Or.inl rfl) (pe_op op_cat (pv 11) (pe_lst (pa_cons (pe_tup (pa_cons pe_str (pa_cons (pe_lst pa_nil) pa_nil))) (pa_cons (pe_tup (pa_cons pe_str (pa_cons (pe_lst (pa_cons pe_int (pa_cons pe_int pa_nil))) pa_nil))) pa_nil)))))
      (pss_one (ps_expr (pe_bm PySem.F.plainAttrs_list PySem.F.slot_list_append PySem.F.type_list_append mt_append (pv 4) (pa_cons (pe_call (ok_law_u_pick T) (hr.mono (by decide)) rfl T.g_law_u_pick T.F_law_u_pick.kp T.b_law_u_pick .nil pass0 (pa_cons (pv 0) (pa_cons (pe_op op_cat (pv 11) (pe_lst (pa_cons (pe_tup (pa_cons pe_str (pa_cons (pv 9) (pa_cons (pe_lst (pa_cons pe_int (pa_cons pe_int pa_nil))) pa_nil)))) pa_nil))) pa_nil))) pa_nil)))))))))))))))))
      (pss_one (ps_ret (pv 4))))), ?_⟩
    refine ⟨by show 0 ≤ sizeLine; decide, fun C hC => ?_⟩
    have s1 := Same.new (o := .lst []) hC
    have gC1 : upd H C (.lst []) C = some (.lst []) := upd_same
    refine ⟨by show 0 ≤ sizeLine; decide, fun G hG => ?_⟩
    have s2 := Same.new (o := .lst []) hG
    have hCG : C ≠ G := ne_of_none gC1 hG
    have gC2 := s2 _ _ gC1
    have gG2 : upd (upd H C (.lst [])) G (.lst []) G = some (.lst []) := upd_same
    have hGH : H G = none := s1.free hG
    have hGp : G ≠ p := Ne.symm (hp.ne hGH)
    have hGc : G ≠ c := Ne.symm (hp.nec hGH)
    have hCp : C ≠ p := Ne.symm (hp.ne hC)
    have hCc : C ≠ c := Ne.symm (hp.nec hC)
    refine ⟨_, _, rfl, ?_⟩
    have s12 := s1.trans s2
    show tSeq _ _ _ _ (upd (upd H C (.lst [])) G (.lst []))
    generalize upd (upd H C (.lst [])) G (.lst []) = H2 at s12 gC2 gG2 ⊢
    refine ⟨_, rfl, _, rfl, by omega, by omega, ?_⟩
    rw [Int.toNat_natCast]
    refine for_range (lo := 0) (n := m) (fun i σ H' => (∃ v5 v6 v7 v8 v9 v10 v11 : Option V, σ = [some (.ref p), some sv, some (.int (m : Nat)), some (.ref C), some (.ref G), v5, v6, v7, v8, v9, v10, v11]) ∧ EvSt K p c C G n F r H H' i)
      ⟨⟨_, _, _, _, _, _, _, rfl⟩, (hp.keep s12).mono (by omega), But.of s12, [], [], [], [], tb0 r, gC2, gG2, .nil, fun _ h => (nomatch h), Nat.le_refl _, rfl, .nil, fun _ h => (nomatch h), Nat.le_refl _⟩ ?_ ?_
    · rintro i σ H3 hi ⟨⟨v5, v6, v7, v8, v9, v10, v11, rfl⟩, P3, B3, cs, is, xs, es, t, gC3, gG3, hI3, okI, lI, hst, hE3, okE, lE⟩
      have hxl : xs.length = es.length := p_len hE3
      have hcl := p_len hI3
      have pS : p ∈ [C, G, p] := by simp
      obtain ⟨pp, gp0⟩ := hp.some.1
      have hS3 := hS.ts (TS.but B3 gp0 nt_lst)
      obtain ⟨okT, hmd⟩ := stO_ok okS.r okS.fd okI hst
      refine ⟨_, rfl, _, rfl, sv, C, F, r, w, cs, is, rfl, hS3, okS, SqL.of gC3, hI3, okI, by omega, fun t' ht D o H4 hD ho s4 gO hE => ?_, fun z => (by rw [hst] at z; cases z)⟩
      obtain rfl : t = t' := Option.some.inj (hst.symm.trans ht)
      refine ⟨o, _, rfl, SqT.of gO, rfl, _, _, rfl, _, _, rfl, rfl, ?_⟩
      refine ⟨_, rfl, take_n 10 (P3.keep s4) (by decide) (by decide) (by omega) fun wy H5 hwy d5 => ?_⟩
      refine ⟨_, rfl, by show 6 ≤ sizeLine; decide, fun l hl => pick_new d5.pen hl (by simp) (by show 6 ≤ 1000; decide) (by omega) fun x H6 hx d6 => ?_⟩
      obtain ⟨st, rfl, hst20⟩ : ∃ z : Nat, x = .int (z : Nat) ∧ z ≤ 20 := by
        simp only [List.mem_cons, List.not_mem_nil, or_false] at hx
        rcases hx with h | h | h | h | h | h
        · exact ⟨0, h, by omega⟩
        · exact ⟨1, h, by omega⟩
        · exact ⟨2, h, by omega⟩
        · exact ⟨9, h, by omega⟩
        · exact ⟨10, h, by omega⟩
        · exact ⟨20, h, by omega⟩
      refine ⟨_, _, rfl, ?_⟩
      have D6 : Drew p c H3 H6 (n + 50 * i + 2) := Drew.pre s4 (d5.trans d6)
      have k56 := KS.drew (P3.keep s4) (d5.trans d6)
      have k36 := KS.drew P3 D6
      have hE6 := hE.ks k56
      have P6 := D6.pen
      have B6 := B3.trans D6.but
      have gC6 := D6.but _ _ hCp gC3
      have gG6 := D6.but _ _ hGp gG3
      have hI6 := hI3.ts k36.ts
      have hEv6 : EvtsV K (OffS [C, G, p] H6) xs es := EvtsV.keep (D6.off pS) hE3
      have hS6 := hS3.ts k36.ts
      clear d5 d6 k56 hx hE hS3 D6 k36
      have sz : xs.length < sizeLine := by rw [sizeLine_eq]; omega
      have lst6 : ∀ {H' : Hp}, But p H6 H' → Pen H' p c 0 → True := fun _ _ => True.intro
      clear lst6
      -- how a step from here goes on
      have go : ∀ {N : Nat} {H' : Hp}, Drew p c H6 H' N → But p H H' ∧ H' C = some (.lst cs) ∧ H' G = some (.lst xs) ∧ InssV K H' cs is ∧ EvtsV K (OffS [C, G, p] H') xs es ∧ TS H' (OffS [C, G, p] H') ∧ Hid [C, G, p] H' := by
        intro N H' d
        have g1 := d.but _ _ hCp gC6
        have g2 := d.but _ _ hGp gG6
        have hl : ∀ b ∈ [C, G, p], ∃ ys, H' b = some (.lst ys) := by
          intro b hb
          simp only [List.mem_cons, List.not_mem_nil, or_false] at hb
          rcases hb with rfl | rfl | rfl
          · exact ⟨_, g1⟩
          · exact ⟨_, g2⟩
          · exact d.pen.some.1
        exact ⟨B6.trans d.but, g1, g2, hI6.ts (TS.drew P6 d), EvtsV.keep (d.off pS) hEv6, (ks_off hl).ts, fun b hb => by obtain ⟨ys, e⟩ := hl b hb; rw [e]; exact fun z => nomatch z⟩
      have add : ∀ {N : Nat} {H' : Hp} {v : V} {e : Evt}, Drew p c H6 H' N → N ≤ n + 50 * (i + 1) → EvtV K (OffS [C, G, p] H') v e → e.Ok → EvSt K p c C G n F r H (upd H' G (.lst (xs ++ [v]))) (i + 1) := by
        intro N H' v e d hN hv oke
        obtain ⟨g0, g1, g2, g3, g4, _⟩ := go d
        exact ev_add hGp hGc hCG hGH d.pen hN g0 g1 g2 g3 okI (by omega) hst g4 okE lE hv oke
      have stay : ∀ {N : Nat} {H' : Hp}, Drew p c H6 H' N → N ≤ n + 50 * (i + 1) → EvSt K p c C G n F r H H' (i + 1) := by
        intro N H' d hN
        obtain ⟨g0, g1, g2, g3, g4, _⟩ := go d
        exact ev_stay d.pen hN g0 g1 g2 g3 okI (by omega) hst g4 okE lE
      have D60 : Drew p c H6 H6 (n + 50 * i + 2) := ⟨P6, But.refl _ _⟩
      refine ⟨_, rfl, _, _, rfl, rfl, _, rfl, ifb (fun _ => ?_) (fun _ => ?_)⟩
      · -- an instruction
        refine ⟨_, rfl, _, rfl, _, rfl, _, rfl, p, c, D, _, sv, F, r, w, t, rfl, P6, by omega, hS6, okS, hE6, okT, by omega, fun v i0 H7 hv ok0 d7 => ?_⟩
        have hS7 := hS6.ts (TS.drew P6 d7)
        have D7 := d7.mono (show _ ≤ n + 50 * i + 12 by omega)
        clear d7
        obtain ⟨B7, gC7, gG7, hI7, hEv7, t7, hid7⟩ := go D7
        refine ⟨_, rfl, _, rfl, _, rfl, by show 1 ≤ sizeLine; decide, fun l hl => ?_⟩
        have s8 := Same.new (o := .lst [v]) hl
        refine ⟨C, l, _, _, rfl, rfl, s8 _ _ gC7, upd_same, by show cs.length + 1 ≤ sizeLine; rw [sizeLine_eq]; omega, fun l2 hl2 => ?_⟩
        have s9 := Same.new (o := .lst (cs ++ [v])) hl2
        have s79 := s8.trans s9
        have g9 : upd (upd H7 l (.lst [v])) l2 (.lst (cs ++ [v])) l2 = some (.lst (cs ++ [v])) := upd_same
        generalize upd (upd H7 l (.lst [v])) l2 (.lst (cs ++ [v])) = H9 at s79 g9 ⊢
        have oki2 : ∀ j ∈ is ++ [i0], j.Ok := fun j hj => by
          rcases List.mem_append.mp hj with z | z
          · exact okI j z
          · rw [List.mem_singleton.mp z]; exact ok0
        have lI2 : (is ++ [i0]).length ≤ i + 1 := by rw [List.length_append]; show is.length + 1 ≤ i + 1; omega
        have D9 := D7.keep s79
        obtain ⟨B9, gC9, gG9, hI9, hEv9, t9, hid9⟩ := go D9
        have hv9 := hv.ts (.of s79)
        refine ⟨sv, l2, F, r, w, cs ++ [v], is ++ [i0], rfl, hS7.ts (.of s79), okS, SqL.of g9, p_app hI9 (.cons hv9 .nil), oki2, by omega, fun t2 ht2 D2 o2 H10 hD2 ho2 s10 gO2 hE2 => ?_, fun hno H10 s10 => ?_⟩
        · refine ⟨rfl, _, rfl, ifT rfl ?_⟩
          have D10 := D9.keep s10
          obtain ⟨B10, gC10, gG10, hI10, hEv10, t10, hid10⟩ := go D10
          have hv10 := hv9.ts (.of s10)
          refine ⟨_, rfl, .inl ⟨rfl, _, SqL.of gC10⟩, _, rfl, C, _, _, rfl, rfl, gC10, by rw [sizeLine_eq]; omega, ?_⟩
          have tC : TS H10 (upd H10 C (.lst (cs ++ [v]))) := TS.at gC10 nt_lst
          have oC := off_hid (H := H10) (o := .lst (cs ++ [v])) (show C ∈ [C, G, p] by simp)
          have P11 := penL (o := .lst (cs ++ [v])) D10.pen hCp hCc
          have B11 : But p H (upd H10 C (.lst (cs ++ [v]))) := B10.put hC
          have gC11 : upd H10 C (.lst (cs ++ [v])) C = some (.lst (cs ++ [v])) := upd_same
          have gG11 : upd H10 C (.lst (cs ++ [v])) G = some (.lst xs) := by rw [upd_ne (Ne.symm hCG)]; exact gG10
          have hI11 := InssV.ts (p_app hI10 (.cons hv10 .nil)) tC
          have hv11 := hv10.ts tC
          have hEv11 := EvtsV.keep oC hEv10
          have hid11 : Hid [C, G, p] (upd H10 C (.lst (cs ++ [v]))) := hid10.upd
          generalize upd H10 C (.lst (cs ++ [v])) = H11 at P11 B11 gC11 gG11 hI11 hv11 hEv11 hid11 ⊢
          refine ⟨_, rfl, .inl ⟨rfl, _, SqL.of gG11⟩, _, rfl, by show 2 ≤ sizeLine; decide, fun t1 ht1 => ?_⟩
          have s12 := Same.new (o := .tup [.str "table", v]) ht1
          have gG12 := s12 _ _ gG11
          have hl12 : ∀ b ∈ [C, G, p], ∃ ys, upd H11 t1 (.tup [.str "table", v]) b = some (.lst ys) := by
            intro b hb
            simp only [List.mem_cons, List.not_mem_nil, or_false] at hb
            rcases hb with rfl | rfl | rfl
            · exact ⟨_, s12 _ _ gC11⟩
            · exact ⟨_, gG12⟩
            · exact (P11.keep s12).some.1
          refine ⟨G, _, _, rfl, rfl, gG12, sz, ⟨_, _, _, _, _, _, _, rfl⟩, ?_⟩
          exact ev_add hGp hGc hCG hGH (P11.keep s12) (by omega) (B11.trans (But.of s12)) (s12 _ _ gC11) gG12 (pmap (fun _ _ z => InsV.ts z (.of s12)) hI11) oki2 lI2 ht2 (EvtsV.keep s12.off hEv11) okE lE (e := .tab i0) ⟨t1, v, rfl, offT ht1 hid11, (hv11.ts (.of s12)).ts (ks_off hl12).ts⟩ ok0
        · refine ⟨rfl, _, rfl, ifF rfl ?_⟩
          have D10 := D9.keep s10
          refine ⟨_, rfl, take_n 3 D10.pen (by decide) (by decide) (by omega) fun z H11 hz d11 => ⟨rfl, _, rfl, ifb (fun _ => ?_) (fun _ => ?_)⟩⟩
          · have D11 := D10.trans d11
            have hv11 := (hv9.ts (.of s10)).ts (TS.drew D10.pen d11)
            obtain ⟨B11, gC11, gG11, hI11, hEv11, t11, hid11⟩ := go D11
            refine ⟨_, rfl, .inl ⟨rfl, _, SqL.of gG11⟩, _, rfl, by show 2 ≤ sizeLine; decide, fun t1 ht1 => ?_⟩
            have s12 := Same.new (o := .tup [.str "table", v]) ht1
            have D12 := D11.keep s12
            obtain ⟨B12, gC12, gG12, hI12, hEv12, t12, hid12⟩ := go D12
            exact ⟨G, _, _, rfl, rfl, gG12, sz, ⟨_, _, _, _, _, _, _, rfl⟩, add D12 (by omega) (e := .tab i0) ⟨t1, v, rfl, offT ht1 hid11, (hv11.ts (.of s12)).ts t12⟩ ok0⟩
          · exact ⟨⟨_, _, _, _, _, _, _, rfl⟩, stay (D10.trans d11) (by omega)⟩
      refine ⟨_, rfl, _, _, rfl, rfl, _, rfl, ifb (fun _ => ?_) (fun _ => ?_)⟩
      · -- a block
        refine ⟨fun σ' H' => ∃ (pL : Addr) (ks : List Nat), σ' = [some (.ref p), some sv, some (.int (m : Nat)), some (.ref C), some (.ref G), some (.int (0 + (i : Int))), some (.int (t.made : Nat)), some (.ref D), some (.int (wy : Nat)), some (.int (st : Nat)), v10, some (.ref pL)] ∧ pL ≠ p ∧ H' pL = some (.lst (natV ks)) ∧ (∀ k ∈ ks, k ≤ 9000) ∧ ks.length ≤ 1000 ∧ Drew p c H6 H' (n + 50 * i + 3), ?_, ?_⟩
        · refine ⟨_, rfl, take_n 6 P6 (by decide) (by decide) (by omega) fun z H7 hz d7 => ⟨_, _, rfl, rfl, _, rfl, ifb (fun _ => ?_) (fun _ => ?_)⟩⟩
          · obtain ⟨kvs, gD, hpp⟩ := hE6.ks (KS.drew P6 d7)
            have hkl := p_len hpp
            have hl24 := okT.len
            refine ⟨_, rfl, D, kvs, _, rfl, .inl gD, keys_inl hpp, by rw [List.length_map]; omega, fun ys pL perm sorted hpL => ?_⟩
            have eys := sorted_keys okT.ascE perm sorted
            subst eys
            have eL : (t.es.map fun e => ((e.1 : Nat) : Int)).map V.int = natV (t.es.map (·.1)) := by rw [natV, List.map_map, List.map_map]; rfl
            rw [eL]
            refine ⟨pL, t.es.map (·.1), rfl, fun z => (d7.pen.ne hpL) z.symm, upd_same, fun k hk => ?_, by rw [List.length_map]; omega, d7.keep (Same.new hpL)⟩
            obtain ⟨e, he, rfl⟩ := List.mem_map.mp hk
            have := okT.lt e he
            omega
          · refine ⟨_, rfl, _, _, rfl, rfl, _, rfl, RgOk.of_le (by omega) (by omega) (by omega) (by omega), fun pL hpL => ?_⟩
            have eL : rgV 0 ((t.made : Int) + 1) = natV (List.range (t.made + 1)) := by
              unfold rgV natV
              rw [show ((t.made : Int) + 1 - 0).toNat = t.made + 1 by omega]
              exact List.map_congr_left fun k _ => by rw [Int.zero_add]
            dsimp only
            rw [eL]
            exact ⟨pL, _, rfl, fun z => (d7.pen.ne hpL) z.symm, upd_same, fun k hk => by have := List.mem_range.mp hk; omega, by rw [List.length_range]; omega, d7.keep (Same.new hpL)⟩
        · rintro σ' H7 ⟨pL, ks, rfl, nLp, gL7, hks, hkl, D7⟩
          obtain ⟨B7, gC7, gG7, hI7, hEv7, t7, hid7⟩ := go D7
          refine ⟨_, rfl, .inl ⟨rfl, _, SqL.of gG7⟩, ?_⟩
          refine ⟨_, rfl, _, rfl, _, rfl, _, rfl, _, rfl, p, c, pL, _, _, sv, ks, rfl, D7.pen, by omega, SqL.of gL7, nLp, hks, hkl, by omega, fun v b H8 hv okb lb d8 => ?_⟩
          refine ⟨by show 3 ≤ sizeLine; decide, fun t1 ht1 => ?_⟩
          have D8 := D7.trans d8
          obtain ⟨_, _, _, _, _, _, hid8⟩ := go D8
          have s9 := Same.new (o := .tup [.str "block", .int (st : Nat), v]) ht1
          have D9 := D8.keep s9
          obtain ⟨B9, gC9, gG9, hI9, hEv9, t9, hid9⟩ := go D9
          exact ⟨G, _, _, rfl, rfl, gG9, sz, ⟨_, _, _, _, _, _, _, rfl⟩, add D9 (by omega) (e := .blk st b) ⟨t1, v, rfl, offT ht1 hid8, BlkV.ts (hv.keep s9) t9⟩ ⟨hst20, okb, lb⟩⟩
      refine ⟨_, rfl, _, _, rfl, rfl, _, rfl, ifb (fun _ => ?_) (fun _ => ?_)⟩
      · -- an answer
        refine ⟨_, rfl, .inl ⟨rfl, _, SqL.of gG6⟩, ?_⟩
        refine ⟨_, rfl, _, rfl, by show 2 ≤ sizeLine; decide, fun t1 h1 => ?_⟩
        have s1 := Same.new (o := .tup [.str "done", .int (st : Nat)]) h1
        refine ⟨_, rfl, by show 2 ≤ sizeLine; decide, fun t2 h2 => ?_⟩
        have s2 := Same.new (o := .tup [.str "done", .int (st : Nat)]) h2
        refine ⟨by show 2 ≤ sizeLine; decide, fun t3 h3 => ?_⟩
        have s3 := Same.new (o := .tup [.str "received", .int 1]) h3
        have e1 : SqT K _ t1 [.str "done", .int (st : Nat)] := (s2.trans s3).tup (SqT.of upd_same)
        have e2 : SqT K _ t2 [.str "done", .int (st : Nat)] := s3.tup (SqT.of upd_same)
        have e3 : SqT K (upd (upd (upd H6 t1 (.tup [.str "done", .int (st : Nat)])) t2 (.tup [.str "done", .int (st : Nat)])) t3 (.tup [.str "received", .int 1])) t3 [.str "received", .int 1] := SqT.of upd_same
        have D7 := D60.keep ((s1.trans s2).trans s3)
        generalize upd (upd (upd H6 t1 (.tup [.str "done", .int (st : Nat)])) t2 (.tup [.str "done", .int (st : Nat)])) t3 (.tup [.str "received", .int 1]) = H7 at e1 e2 e3 D7 ⊢
        refine ⟨by show 3 ≤ sizeLine; decide, fun l hl => pick_new D7.pen hl (by simp) (by show 3 ≤ 1000; decide) (by omega) fun x H8 hx d8 => ?_⟩
        have t8 := TS.drew D7.pen d8
        have D8 := D7.trans d8
        obtain ⟨an, hv8, oka⟩ : ∃ an : Ans, AnsV K H8 x an ∧ an.Ok := by
          simp only [List.mem_cons, List.not_mem_nil, or_false] at hx
          rcases hx with h | h | h
          · exact ⟨.done st, ⟨t1, h, t8.tup e1⟩, hst20⟩
          · exact ⟨.done st, ⟨t2, h, t8.tup e2⟩, hst20⟩
          · exact ⟨.received 1, ⟨t3, h, t8.tup e3⟩, by show 1 ≤ 1 ∧ 1 ≤ 9999; omega⟩
        refine ⟨by show 2 ≤ sizeLine; decide, fun t4 ht4 => ?_⟩
        obtain ⟨_, _, _, _, _, _, hid8⟩ := go D8
        have s9 := Same.new (o := .tup [.str "answer", x]) ht4
        have D9 := D8.keep s9
        obtain ⟨B9, gC9, gG9, hI9, hEv9, t9, hid9⟩ := go D9
        exact ⟨G, _, _, rfl, rfl, gG9, sz, ⟨_, _, _, _, _, _, _, rfl⟩, add D9 (by omega) (e := .ans an) ⟨t4, x, rfl, offT ht4 hid8, (hv8.ts (.of s9)).ts t9⟩ oka⟩
      refine ⟨_, rfl, take_n 2 P6 (by decide) (by decide) (by omega) fun z H7 hz d7 => ⟨rfl, _, rfl, ifb (fun _ => ?_) (fun _ => ?_)⟩⟩
      · -- an odd answer
        obtain ⟨_, _, gG7, _, _, _, hid7⟩ := go d7
        refine ⟨_, rfl, .inl ⟨rfl, _, SqL.of gG7⟩, ?_⟩
        refine ⟨_, rfl, _, rfl, by show 2 ≤ sizeLine; decide, fun t1 h1 => ?_⟩
        have s1 := Same.new (o := .tup [.str "cancelled", .int (st : Nat)]) h1
        refine ⟨by show 2 ≤ sizeLine; decide, fun t2 h2 => ?_⟩
        have s2 := Same.new (o := .tup [.str "received", .int 2]) h2
        have hid8 := (hid7.keep s1).keep s2
        refine ⟨by show 0 ≤ sizeLine; decide, fun l3 h3 => ?_⟩
        have s3 := Same.new (o := .lst []) h3
        have a3 : SqL K _ l3 [] := offL h3 hid8
        refine ⟨by show 1 ≤ sizeLine; decide, fun l4 h4 => ?_⟩
        have s4 := Same.new (o := .lst [.int 0]) h4
        have a4 : SqL K _ l4 [.int 0] := offL h4 (hid8.keep s3)
        refine ⟨by show 2 ≤ sizeLine; decide, fun l5 h5 => ?_⟩
        have s5 := Same.new (o := .lst [.int 129, .int 129]) h5
        have a5 : SqL K (OffS [C, G, p] (upd (upd (upd (upd (upd H7 t1 (.tup [.str "cancelled", .int (st : Nat)])) t2 (.tup [.str "received", .int 2])) l3 (.lst [])) l4 (.lst [.int 0])) l5 (.lst [.int 129, .int 129]))) l5 [.int 129, .int 129] := offL h5 ((hid8.keep s3).keep s4)
        have b3 := (s4.trans s5).off.seq a3
        have b4 := s5.off.seq a4
        have e1 : SqT K _ t1 [.str "cancelled", .int (st : Nat)] := (((s2.trans s3).trans s4).trans s5).tup (SqT.of upd_same)
        have e2 : SqT K _ t2 [.str "received", .int 2] := ((s3.trans s4).trans s5).tup (SqT.of upd_same)
        have D8 := d7.keep ((((s1.trans s2).trans s3).trans s4).trans s5)
        generalize upd (upd (upd (upd (upd H7 t1 (.tup [.str "cancelled", .int (st : Nat)])) t2 (.tup [.str "received", .int 2])) l3 (.lst [])) l4 (.lst [.int 0])) l5 (.lst [.int 129, .int 129]) = H8 at e1 e2 b3 b4 a5 D8 ⊢
        refine ⟨by show 5 ≤ sizeLine; decide, fun l hl => pick_new D8.pen hl (by simp) (by show 5 ≤ 1000; decide) (by omega) fun x H9 hx d9 => ?_⟩
        have t9 := TS.drew D8.pen d9
        have o9 := d9.off (S := [C, G, p]) pS
        have D9 := D8.trans d9
        obtain ⟨_, _, _, _, _, _, hid9⟩ := go D9
        refine ⟨by show 2 ≤ sizeLine; decide, fun t4 ht4 => ?_⟩
        have s10 := Same.new (o := .tup [.str "answer", x]) ht4
        have D10 := D9.keep s10
        obtain ⟨B10, gC10, gG10, hI10, hEv10, t10, hid10⟩ := go D10
        obtain ⟨e, hv, oke⟩ : ∃ e : Evt, EvtV K (OffS [C, G, p] (upd H9 t4 (.tup [.str "answer", x]))) (.ref t4) e ∧ e.Ok := by
          simp only [List.mem_cons, List.not_mem_nil, or_false] at hx
          rcases hx with h | h | h | h | h
          · exact ⟨.ans (.cancelled st), ⟨t4, x, rfl, offT ht4 hid9, AnsV.ts ⟨t1, h, s10.tup (t9.tup e1)⟩ t10⟩, hst20⟩
          · exact ⟨.ans (.received 2), ⟨t4, x, rfl, offT ht4 hid9, AnsV.ts ⟨t2, h, s10.tup (t9.tup e2)⟩ t10⟩, by show 1 ≤ 2 ∧ 2 ≤ 9999; omega⟩
          · subst h; exact ⟨.rawA [], ⟨t4, l3, rfl, offT ht4 hid9, s10.off.seq (o9.seq b3)⟩, by show 0 ≤ 8; omega, fun o ho => nomatch ho⟩
          · subst h; exact ⟨.rawA [0], ⟨t4, l4, rfl, offT ht4 hid9, s10.off.seq (o9.seq b4)⟩, by show 1 ≤ 8; omega, fun o ho => by rw [List.mem_singleton.mp ho]; omega⟩
          · subst h; exact ⟨.rawA [129, 129], ⟨t4, l5, rfl, offT ht4 hid9, s10.off.seq (o9.seq a5)⟩, by show 2 ≤ 8; omega, fun o ho => by simp only [List.mem_cons, List.not_mem_nil, or_false, or_self] at ho; rw [ho]; omega⟩
        exact ⟨G, _, _, rfl, rfl, gG10, sz, ⟨_, _, _, _, _, _, _, rfl⟩, add D10 (by omega) hv oke⟩
      · -- octets that are none
        obtain ⟨_, _, _, _, _, _, hid⟩ := go d7
        have A : EvtsV K (OffS [C, G, p] H7) [] [] := .nil
        have u := Same.refl H7
        refine ⟨by show 1 ≤ sizeLine; decide, fun l0 hl0 => ?_⟩
        refine ⟨by show 2 ≤ sizeLine; decide, fun t0 ht0 => ?_⟩
        obtain ⟨sk, hid, A⟩ := lay_rawT (xs := [.int 65]) (ns := [65]) rfl hl0 ht0 hid A
        have u := u.trans sk
        generalize upd (upd H7 l0 (.lst [.int 65])) t0 (.tup [.str "table", .ref l0]) = H7_0 at sk u hid A ⊢
        clear sk
        refine ⟨by show 1 ≤ sizeLine; decide, fun l1 hl1 => ?_⟩
        refine ⟨by show 2 ≤ sizeLine; decide, fun t1 ht1 => ?_⟩
        obtain ⟨sk, hid, A⟩ := lay_rawT (xs := [.int 96]) (ns := [96]) rfl hl1 ht1 hid A
        have u := u.trans sk
        generalize upd (upd H7_0 l1 (.lst [.int 96])) t1 (.tup [.str "table", .ref l1]) = H7_1 at sk u hid A ⊢
        clear sk
        refine ⟨by show 5 ≤ sizeLine; decide, fun l2 hl2 => ?_⟩
        refine ⟨by show 2 ≤ sizeLine; decide, fun t2 ht2 => ?_⟩
        obtain ⟨sk, hid, A⟩ := lay_rawT (xs := [.int 65, .int 97, .int 1, .int 120, .int 65]) (ns := [65, 97, 1, 120, 65]) rfl hl2 ht2 hid A
        have u := u.trans sk
        generalize upd (upd H7_1 l2 (.lst [.int 65, .int 97, .int 1, .int 120, .int 65])) t2 (.tup [.str "table", .ref l2]) = H7_2 at sk u hid A ⊢
        clear sk
        refine ⟨_, rfl, by show 1 ≤ sizeLine; decide, fun l3 hl3 => ?_⟩
        refine ⟨by show 3 ≤ sizeLine; decide, fun t3 ht3 => ?_⟩
        obtain ⟨sk, hid, A⟩ := lay_rawB (xs := [.int 7]) (ns := [7]) (k := st) rfl hl3 ht3 hid A
        have u := u.trans sk
        generalize upd (upd H7_2 l3 (.lst [.int 7])) t3 (.tup [.str "block", .int (st : Nat), .ref l3]) = H7_3 at sk u hid A ⊢
        clear sk
        refine ⟨by show 4 ≤ sizeLine; decide, fun la hla => ?_⟩
        have sl := Same.new (o := .lst [.ref t0, .ref t1, .ref t2, .ref t3]) hla
        have gl : upd H7_3 la (.lst [.ref t0, .ref t1, .ref t2, .ref t3]) la = some (.lst [.ref t0, .ref t1, .ref t2, .ref t3]) := upd_same
        have A := EvtsV.keep sl.off A
        have hid := hid.keep sl
        have u := u.trans sl
        clear sl
        show tSeq _ _ _ _ (upd H7_3 la (.lst [.ref t0, .ref t1, .ref t2, .ref t3]))
        generalize upd H7_3 la (.lst [.ref t0, .ref t1, .ref t2, .ref t3]) = Ha at gl A hid u ⊢
        refine ⟨_, rfl, by show 0 ≤ sizeLine; decide, fun l4 hl4 => ?_⟩
        refine ⟨by show 2 ≤ sizeLine; decide, fun t4 ht4 => ?_⟩
        obtain ⟨sk, hid, A⟩ := lay_rawT (xs := []) (ns := []) rfl hl4 ht4 hid A
        have u := u.trans sk
        have gl := sk _ _ gl
        generalize upd (upd Ha l4 (.lst [])) t4 (.tup [.str "table", .ref l4]) = H7_4 at sk u hid A gl ⊢
        clear sk
        refine ⟨by show 2 ≤ sizeLine; decide, fun l5 hl5 => ?_⟩
        refine ⟨by show 2 ≤ sizeLine; decide, fun t5 ht5 => ?_⟩
        obtain ⟨sk, hid, A⟩ := lay_rawT (xs := [.int 0, .int 0]) (ns := [0, 0]) rfl hl5 ht5 hid A
        have u := u.trans sk
        have gl := sk _ _ gl
        generalize upd (upd H7_4 l5 (.lst [.int 0, .int 0])) t5 (.tup [.str "table", .ref l5]) = H7_5 at sk u hid A gl ⊢
        clear sk
        refine ⟨by show 2 ≤ sizeLine; decide, fun lb hlb => ?_⟩
        have sl := Same.new (o := .lst [.ref t4, .ref t5]) hlb
        refine ⟨la, lb, _, _, rfl, rfl, sl _ _ gl, upd_same, by show 4 + 2 ≤ sizeLine; decide, fun lc hlc => ?_⟩
        have sm := Same.new (o := .lst ([.ref t0, .ref t1, .ref t2, .ref t3] ++ [.ref t4, .ref t5])) hlc
        have sl := sl.trans sm
        have gc : upd (upd H7_5 lb (.lst [.ref t4, .ref t5])) lc (.lst ([.ref t0, .ref t1, .ref t2, .ref t3] ++ [.ref t4, .ref t5])) lc = some (.lst ([.ref t0, .ref t1, .ref t2, .ref t3] ++ [.ref t4, .ref t5])) := upd_same
        have A := EvtsV.keep sl.off A
        have hid := hid.keep sl
        have u := u.trans sl
        clear sl sm gl
        generalize upd (upd H7_5 lb (.lst [.ref t4, .ref t5])) lc (.lst ([.ref t0, .ref t1, .ref t2, .ref t3] ++ [.ref t4, .ref t5])) = Hc at gc A hid u ⊢
        have gl := gc
        clear gc
        obtain ⟨_, _, gGc, _, _, _, _⟩ := go (d7.keep u)
        refine ⟨_, rfl, .inl ⟨rfl, _, SqL.of gGc⟩, ?_⟩
        refine ⟨_, rfl, _, rfl, _, rfl, by show 2 ≤ sizeLine; decide, fun l6 hl6 => ?_⟩
        refine ⟨by show 3 ≤ sizeLine; decide, fun t6 ht6 => ?_⟩
        obtain ⟨sk, hid, A⟩ := lay_rawB (xs := [.int 0, .int 1]) (ns := [0, 1]) (k := st) rfl hl6 ht6 hid A
        have u := u.trans sk
        have gl := sk _ _ gl
        generalize upd (upd Hc l6 (.lst [.int 0, .int 1])) t6 (.tup [.str "block", .int (st : Nat), .ref l6]) = H7_6 at sk u hid A gl ⊢
        clear sk
        refine ⟨by show 1 ≤ sizeLine; decide, fun ld hld => ?_⟩
        have sl := Same.new (o := .lst [.ref t6]) hld
        have D8 := (d7.keep u).keep sl
        refine ⟨lc, ld, _, _, rfl, rfl, sl _ _ gl, upd_same, by show 6 + 1 ≤ sizeLine; decide, fun le hle => pick_new D8.pen hle (by simp) (by show 7 ≤ 1000; decide) (by omega) fun x H9 hx d9 => ?_⟩
        have D9 := D8.trans (Drew.pre (Same.refl _) d9)
        obtain ⟨B9, gC9, gG9, hI9, hEv9, t9, hid9⟩ := go D9
        have A9 := EvtsV.keep (d9.off (S := [C, G, p]) pS) (EvtsV.keep sl.off A)
        obtain ⟨e, he, hv⟩ : ∃ e ∈ [Evt.rawB st [0, 1], .rawT [0, 0], .rawT [], .rawB st [7], .rawT [65, 97, 1, 120, 65], .rawT [96], .rawT [65]], EvtV K (OffS [C, G, p] H9) x e := by
          refine p_mem A9 ?_
          simp only [List.mem_cons, List.mem_append, List.not_mem_nil, or_false] at hx ⊢
          rcases hx with ((h | h | h | h) | (h | h)) | h <;> rw [h] <;> simp
        have oke : e.Ok := by
          have rT : ∀ ns : List Int, ns.length ≤ 8 → (∀ o ∈ ns, 0 ≤ o ∧ o < 256) → rawOk ns := fun _ a b => ⟨a, b⟩
          simp only [List.mem_cons, List.not_mem_nil, or_false] at he
          rcases he with rfl | rfl | rfl | rfl | rfl | rfl | rfl
          · exact ⟨hst20, rT _ (by decide) (by decide)⟩
          · exact rT _ (by decide) (by decide)
          · exact rT _ (by decide) (by decide)
          · exact ⟨hst20, rT _ (by decide) (by decide)⟩
          · exact rT _ (by decide) (by decide)
          · exact rT _ (by decide) (by decide)
          · exact rT _ (by decide) (by decide)
        exact ⟨G, _, _, rfl, rfl, gG9, sz, ⟨_, _, _, _, _, _, _, rfl⟩, add D9 (by omega) hv oke⟩
    · rintro σ H3 ⟨⟨v5, v6, v7, v8, v9, v10, v11, rfl⟩, P3, B3, cs, is, xs, es, t, gC3, gG3, hI3, okI, lI, hst, hE3, okE, lE⟩
      refine ⟨_, rfl, q G xs es H3 hGH hGp gG3 (EvtsV.keep (fun b o e => ?_) hE3) okE lE ⟨P3, B3⟩⟩
      obtain ⟨nb, eb⟩ := off_get e
      rw [off_ne fun z => nb (by rw [List.mem_singleton.mp z]; simp)]
      exact eb

theorem ok_law_u_octets (T : Txt K mg) : FnOk P w K mg base CX0 8 T.f_law_u_octets T.d_law_u_octets ["event"] (sp_u_octets K) := by
  refine T.F_law_u_octets.ok sc_law_u_octets (fun vs H Q E h => ?_) (fun cdv A outer s H vs Q E hr h => ?_)
  · obtain ⟨v, e, rfl, _⟩ := h
    rfl
  · obtain ⟨v, e, rfl, hv, ok, q⟩ := h
    refine ⟨_, (pss_cons (ps_if (pt_val (pe_callB call_isi rfl T.z_isinstance boot_isinstance (pa_cons (pe_ix ix_tup (pv 0) (pe_un un_neg pe_int) (fun _ _ => rfl)) (pa_cons (pe_bltn (v := .ty "list") rfl T.z_list boot_list rfl) pa_nil)))) (pss_one (ps_ret (pe_op op_catT (pe_slice sl_tup (pv 0) po_none (po_some (pe_un un_neg pe_int))) (pe_tup (pa_cons (pe_callTy call_list_of rfl T.z_list boot_list (pa_cons (pe_ix ix_tup (pv 0) (pe_un un_neg pe_int) (fun _ _ => rfl)) pa_nil)) pa_nil))))) pss_nil)
      (pss_cons (ps_if (pt_cmpR op_eq (pe_ix ix_tup (pv 0) pe_int (fun _ _ => rfl)) pe_str (nomark _)) (pss_one (ps_ret (pe_op op_catT (pe_slice sl_tup (pv 0) po_none (po_some pe_int)) (pe_tup (pa_cons (pe_call (ok_write_block T) (hr.mono (by decide)) rfl T.g_write_block T.F_write_block.kp T.b_write_block .nil pass0 (pa_cons (pe_ix ix_tup (pv 0) pe_int (fun _ _ => rfl)) pa_nil)) pa_nil))))) pss_nil)
      (pss_one (ps_ret (pe_tup (pa_cons (pe_ix ix_tup (pv 0) pe_int (fun _ _ => rfl)) (pa_cons (pe_ifExp (pt_cmpR op_eq (pe_ix ix_tup (pv 0) pe_int (fun _ _ => rfl)) pe_str (nomark _)) (pe_call (ok_write_instruction T) (hr.mono (by decide)) rfl T.g_write_instruction T.F_write_instruction.kp T.b_write_instruction .nil pass0 (pa_cons (pe_ix ix_tup (pv 0) pe_int (fun _ _ => rfl)) pa_nil)) (pe_call (ok_write_answer T) (hr.mono (by decide)) rfl T.g_write_answer T.F_write_answer.kp T.b_write_answer .nil pass0 (pa_cons (pe_ix ix_tup (pv 0) pe_int (fun _ _ => rfl)) pa_nil))) pa_nil))))))), ?_⟩
    cases e with
    | tab i =>
      obtain ⟨a, u, rfl, hs, hu⟩ := hv
      obtain ⟨ua, rfl, hu1⟩ := id hu
      have kL : Kind K H (.ref ua) "tuple" := .tup hu1
      refine ⟨_, rfl, _, rfl, _, _, _, _, rfl, rfl, hs, rfl, _, _, _, _, _, rfl, .ty _, kL.ty, kL.kit, _, rfl, ifF rfl ?_⟩
      refine ⟨_, rfl, _, _, _, _, rfl, rfl, hs, rfl, rfl, _, rfl, ifF (by decide) ?_⟩
      refine ⟨_, rfl, _, _, _, _, rfl, rfl, hs, rfl, _, rfl, _, _, _, _, rfl, rfl, hs, rfl, rfl, _, rfl, ifT (by decide) ?_⟩
      refine ⟨_, rfl, _, _, _, _, rfl, rfl, hs, rfl, .ref ua, i, rfl, hu, ok, fun g H1 hg s1 g1 => ?_⟩
      refine ⟨by show 2 ≤ sizeLine; decide, fun t2 ht2 => ?_⟩
      have s2 := Same.new (o := .tup [.str "table", .ref g]) ht2
      exact q t2 g _ (s1.free ht2) hg (s1.trans s2) upd_same (s2 _ _ g1)
    | ans i =>
      obtain ⟨a, u, rfl, hs, hu⟩ := hv
      obtain ⟨ua, rfl, hu1⟩ := id hu
      have kL : Kind K H (.ref ua) "tuple" := .tup hu1
      refine ⟨_, rfl, _, rfl, _, _, _, _, rfl, rfl, hs, rfl, _, _, _, _, _, rfl, .ty _, kL.ty, kL.kit, _, rfl, ifF rfl ?_⟩
      refine ⟨_, rfl, _, _, _, _, rfl, rfl, hs, rfl, rfl, _, rfl, ifF (by decide) ?_⟩
      refine ⟨_, rfl, _, _, _, _, rfl, rfl, hs, rfl, _, rfl, _, _, _, _, rfl, rfl, hs, rfl, rfl, _, rfl, ifF (by decide) ?_⟩
      refine ⟨_, rfl, _, _, _, _, rfl, rfl, hs, rfl, .ref ua, i, rfl, hu, ok, fun g H1 hg s1 g1 => ?_⟩
      refine ⟨by show 2 ≤ sizeLine; decide, fun t2 ht2 => ?_⟩
      have s2 := Same.new (o := .tup [.str "answer", .ref g]) ht2
      exact q t2 g _ (s1.free ht2) hg (s1.trans s2) upd_same (s2 _ _ g1)
    | blk k b =>
      obtain ⟨a, u, rfl, hs, hu⟩ := hv
      obtain ⟨ua, ut, ux, rfl, hu1, hu2, hu3⟩ := id hu
      have kL : Kind K H (.ref ua) "tuple" := .tup hu1
      refine ⟨_, rfl, _, rfl, _, _, _, _, rfl, rfl, hs, rfl, _, _, _, _, _, rfl, .ty _, kL.ty, kL.kit, _, rfl, ifF rfl ?_⟩
      refine ⟨_, rfl, _, _, _, _, rfl, rfl, hs, rfl, rfl, _, rfl, ifT (by decide) ?_⟩
      refine ⟨_, rfl, _, rfl, a, _, rfl, hs, by show ¬ (HT.sIx 3 0 none = 0 ∧ HT.sIx 3 3 (some 2) = 3); decide, fun p1 h1 => ?_⟩
      have s1 := Same.new (o := .tup [.str "block", .int (k : Nat)]) h1
      refine ⟨_, rfl, _, _, _, _, rfl, rfl, s1.tup hs, rfl, .ref ua, b, rfl, BlkV.keep s1 hu, ok.2.1, fun g H2 hg s2 g2 => ?_⟩
      refine ⟨by show 1 ≤ sizeLine; decide, fun t2 ht2 => ?_⟩
      have s3 := Same.new (o := .tup [.ref g]) ht2
      refine ⟨p1, t2, [.str "block", .int (k : Nat)], _, rfl, rfl, SqT.of ((s2.trans s3) _ _ upd_same), SqT.of upd_same, by simp, by show 2 + 1 ≤ sizeLine; decide, fun z => (nomatch z), fun _ t4 ht4 => ?_⟩
      have s4 := Same.new (o := .tup ([.str "block", .int (k : Nat)] ++ [.ref g])) ht4
      exact q t4 g _ (((s1.trans s2).trans s3).free ht4) (s1.free hg) (((s1.trans s2).trans s3).trans s4) upd_same ((s3.trans s4) _ _ g2)
    | rawT ns =>
      obtain ⟨a, L, rfl, hs, hL⟩ := hv
      have kL : Kind K H (.ref L) "list" := .lst hL
      refine ⟨_, rfl, _, rfl, _, _, _, _, rfl, rfl, hs, rfl, _, _, _, _, _, rfl, .ty _, kL.ty, kL.kit, _, rfl, ifT rfl ?_⟩
      refine ⟨_, rfl, _, rfl, _, rfl, a, _, rfl, hs, by show ¬ (HT.sIx 2 0 none = 0 ∧ HT.sIx 2 2 (some (-1)) = 2); decide, fun p1 h1 => ?_⟩
      have s1 := Same.new (o := .tup [.str "table"]) h1
      refine ⟨_, rfl, _, rfl, _, _, _, _, rfl, rfl, s1.tup hs, rfl, L, _, rfl, .inl (s1.seq hL), fun g hg => ?_⟩
      have s2 := Same.new (o := .lst (ns.map V.int)) hg
      refine ⟨by show 1 ≤ sizeLine; decide, fun t2 ht2 => ?_⟩
      have s3 := Same.new (o := .tup [.ref g]) ht2
      refine ⟨p1, t2, [.str "table"], _, rfl, rfl, SqT.of ((s2.trans s3) _ _ upd_same), SqT.of upd_same, by simp, by show 1 + 1 ≤ sizeLine; decide, fun z => (nomatch z), fun _ t4 ht4 => ?_⟩
      have s4 := Same.new (o := .tup ([.str "table"] ++ [.ref g])) ht4
      exact q t4 g _ (((s1.trans s2).trans s3).free ht4) (s1.free hg) (((s1.trans s2).trans s3).trans s4) upd_same ((s3.trans s4) _ _ upd_same)
    | rawB k ns =>
      obtain ⟨a, L, rfl, hs, hL⟩ := hv
      have kL : Kind K H (.ref L) "list" := .lst hL
      refine ⟨_, rfl, _, rfl, _, _, _, _, rfl, rfl, hs, rfl, _, _, _, _, _, rfl, .ty _, kL.ty, kL.kit, _, rfl, ifT rfl ?_⟩
      refine ⟨_, rfl, _, rfl, _, rfl, a, _, rfl, hs, by show ¬ (HT.sIx 3 0 none = 0 ∧ HT.sIx 3 3 (some (-1)) = 3); decide, fun p1 h1 => ?_⟩
      have s1 := Same.new (o := .tup [.str "block", .int (k : Nat)]) h1
      refine ⟨_, rfl, _, rfl, _, _, _, _, rfl, rfl, s1.tup hs, rfl, L, _, rfl, .inl (s1.seq hL), fun g hg => ?_⟩
      have s2 := Same.new (o := .lst (ns.map V.int)) hg
      refine ⟨by show 1 ≤ sizeLine; decide, fun t2 ht2 => ?_⟩
      have s3 := Same.new (o := .tup [.ref g]) ht2
      refine ⟨p1, t2, [.str "block", .int (k : Nat)], _, rfl, rfl, SqT.of ((s2.trans s3) _ _ upd_same), SqT.of upd_same, by simp, by show 2 + 1 ≤ sizeLine; decide, fun z => (nomatch z), fun _ t4 ht4 => ?_⟩
      have s4 := Same.new (o := .tup ([.str "block", .int (k : Nat)] ++ [.ref g])) ht4
      exact q t4 g _ (((s1.trans s2).trans s3).free ht4) (s1.free hg) (((s1.trans s2).trans s3).trans s4) upd_same ((s3.trans s4) _ _ upd_same)
    | rawA ns =>
      obtain ⟨a, L, rfl, hs, hL⟩ := hv
      have kL : Kind K H (.ref L) "list" := .lst hL
      refine ⟨_, rfl, _, rfl, _, _, _, _, rfl, rfl, hs, rfl, _, _, _, _, _, rfl, .ty _, kL.ty, kL.kit, _, rfl, ifT rfl ?_⟩
      refine ⟨_, rfl, _, rfl, _, rfl, a, _, rfl, hs, by show ¬ (HT.sIx 2 0 none = 0 ∧ HT.sIx 2 2 (some (-1)) = 2); decide, fun p1 h1 => ?_⟩
      have s1 := Same.new (o := .tup [.str "answer"]) h1
      refine ⟨_, rfl, _, rfl, _, _, _, _, rfl, rfl, s1.tup hs, rfl, L, _, rfl, .inl (s1.seq hL), fun g hg => ?_⟩
      have s2 := Same.new (o := .lst (ns.map V.int)) hg
      refine ⟨by show 1 ≤ sizeLine; decide, fun t2 ht2 => ?_⟩
      have s3 := Same.new (o := .tup [.ref g]) ht2
      refine ⟨p1, t2, [.str "answer"], _, rfl, rfl, SqT.of ((s2.trans s3) _ _ upd_same), SqT.of upd_same, by simp, by show 1 + 1 ≤ sizeLine; decide, fun z => (nomatch z), fun _ t4 ht4 => ?_⟩
      have s4 := Same.new (o := .tup ([.str "answer"] ++ [.ref g])) ht4
      exact q t4 g _ (((s1.trans s2).trans s3).free ht4) (s1.free hg) (((s1.trans s2).trans s3).trans s4) upd_same ((s3.trans s4) _ _ upd_same)
theorem ok_law_u_log (T : Txt K mg) : FnOk P w K mg base CX0 9 T.f_law_u_log T.d_law_u_log ["events"] (sp_u_log K) := by
  refine T.F_law_u_log.ok sc_law_u_log (fun vs H Q E h => ?_) (fun cdv A outer s H vs Q E hr h => ?_)
  · obtain ⟨L, xs, es, S, rfl, _⟩ := h
    rfl
  · obtain ⟨L, xs, es, S, rfl, hS, gL, hE, ok, hl, q⟩ := h
    refine ⟨_, (pss_one (ps_ret (pe_lc (own := [("event", 1)]) (g := (gName 1)) (tt := tYes)  rfl sc_law_u_log.nd (pi_list (pv 0)) (blkOk_by (own := [("event", 1)]) (N := ["events", "event"]) (sc := defScope s_law_u_log) (by decide +kernel)) (fun _ _ _ _ _ => (pg_name (i := 1) sc_law_u_log.nd rfl (Or.inl rfl))) (fun _ _ _ _ _ => pts_nil) (fun _ _ _ _ _ => (pe_call (ok_law_u_octets T) (hr.mono (by decide)) rfl T.g_law_u_octets T.F_law_u_octets.kp T.b_law_u_octets .nil pass0 (pa_cons (pv 1) pa_nil)))))), ?_⟩
    have hxl : xs.length = es.length := p_len hE
    refine ⟨_, rfl, L, rfl, ⟨xs, SqL.of gL⟩, fun D hD => ?_⟩
    have nDL : D ≠ L := fun z => by rw [z, gL] at hD; cases hD
    refine lc_gen (walk_list (xs := xs)) (fun i zs H' => (∀ b o, b ≠ D → H b = some o → H' b = some o) ∧ Hid (D :: S) H' ∧ LEvs K (OffS (D :: S) H') zs (es.take i)) (by omega) ⟨fun b o nb e => by rw [upd_ne nb]; exact e, (hS.keep (Same.new hD)).cons (by rw [upd_same]; exact fun z => nomatch z), .nil⟩ (fun i zs H' I => SqL.of (I.1 _ _ (Ne.symm nDL) gL)) ?_ ?_
    · rintro i zs x H' H'' Q' Z hi hly gD ⟨hk, hid, hp⟩ ⟨rfl, hx⟩ q'
      obtain ⟨e, he, hv⟩ := p_at hE hx
      have sH : Same H H'' := fun b o e => hk b o (fun z => by rw [z, hD] at e; cases e) e
      have hv2 : EvtV K H'' x e := EvtV.keep sH (EvtV.keep (off_sub S H) hv)
      refine ⟨rfl, yesI ?_⟩
      refine ⟨_, rfl, x, e, rfl, hv2, ok e (List.mem_of_getElem? he), fun a l H4 ha hl4 s4 ga gl => ?_⟩
      have gD4 := s4 _ _ gD
      have hid4 := hid.keep s4
      refine q' _ H4 gD4 ⟨fun b o nb eb => by rw [upd_ne nb]; exact s4 _ _ (hk b o nb eb), hid4.upd, ?_⟩
      rw [List.take_add_one, he]
      exact p_app (LEvs.keep (s4.off.trans (off_hid (List.mem_cons_self ..))) hp) (.cons (LEv.keep (off_hid (List.mem_cons_self ..)) (lev_off hid ha hl4 ga gl)) .nil)
    · rintro zs H' hly gD ⟨hk, hid, hp⟩
      have sH : Same H H' := fun b o e => hk b o (fun z => by rw [z, hD] at e; cases e) e
      rw [List.take_of_length_le (by omega)] at hp
      exact q D zs H' hD sH gD (LEvs.keep off_less hp)

theorem ok_law_u_bent (T : Txt K mg) : FnOk P w K mg base CX0 4 T.f_law_u_bent T.d_law_u_bent ["pen", "book"] (sp_u_bent K) := by
  refine T.F_law_u_bent.ok sc_law_u_bent (fun vs H Q E h => ?_) (fun cdv A outer s H vs Q E hr h => ?_)
  · obtain ⟨p, c, a, n, xs, ds, S, rfl, _⟩ := h
    rfl
  · obtain ⟨p, c, a, n, xs, ds, S, rfl, hp, hn, pS, aS, hS, ga0, ha, hz, hl14, q⟩ := h
    refine ⟨_, (pss_cons (ps_set (i := 2) sc_law_u_bent.nd rfl (Or.inl rfl) (pe_call (ok_law_take T) (hr.mono (by decide)) rfl T.g_law_take T.F_law_take.kp T.b_law_take .nil pass0 (pa_cons (pv 0) (pa_cons (pe_op op_add (pe_callB call_len rfl T.z_len boot_len (pa_cons (pv 1) pa_nil)) pe_int) pa_nil))))
      (Evl.pss_cut (ps_set (i := 3) sc_law_u_bent.nd rfl (Or.inl rfl) (pe_call (ok_law_u_pick T) (hr.mono (by decide)) rfl T.g_law_u_pick T.F_law_u_pick.kp T.b_law_u_pick .nil pass0 (pa_cons (pv 0) (pa_cons (pe_lst (pa_cons (pe_lst (pa_cons pe_int pa_nil)) (pa_cons (pe_lst (pa_cons (pe_un un_neg pe_int) pa_nil)) (pa_cons (pe_lst (pa_cons pe_bl pa_nil)) (pa_cons (pe_lst (pa_cons pe_int (pa_cons pe_bl (pa_cons pe_int pa_nil)))) (pa_cons (pe_tup (pa_cons pe_int (pa_cons pe_int pa_nil))) (pa_cons pe_non (pa_cons pe_str (pa_cons (pe_lst (pa_cons (pe_lst (pa_cons pe_int pa_nil)) pa_nil)) (pa_cons (pe_lst (pa_cons pe_non pa_nil)) (pa_cons (pe_lst (pa_cons pe_int (pa_cons pe_int pa_nil))) (pa_cons (pe_lst pa_nil) (pa_cons pe_dnewK pa_nil))))))))))))) pa_nil))))
      (Evl.pss_cut (ps_set (i := 4) sc_law_u_bent.nd rfl (Or.inl rfl) (pe_lst (pa_cons (pe_tup (pa_cons pe_str (pa_cons (pv 3) pa_nil))) (pa_cons (pe_tup (pa_cons pe_str (pa_cons (pv 3) pa_nil))) (pa_cons (pe_tup (pa_cons pe_str (pa_cons pe_int (pa_cons (pv 3) pa_nil)))) (pa_cons (pe_tup (pa_cons pe_str (pa_cons (pe_call (ok_law_take T) (hr.mono (by decide)) rfl T.g_law_take T.F_law_take.kp T.b_law_take .nil pass0 (pa_cons (pv 0) (pa_cons pe_int pa_nil))) (pa_cons (pe_lst (pa_cons pe_int pa_nil)) pa_nil)))) pa_nil))))))
      (Evl.pss_cut (ps_set (i := 4) sc_law_u_bent.nd rfl (Or.inl rfl) (pe_op op_cat (pv 4) (pe_lst (pa_cons (pe_tup (pa_cons pe_str (pa_cons pe_bl (pa_cons (pe_lst (pa_cons pe_int pa_nil)) pa_nil)))) (pa_cons (pe_tup (pa_cons pe_str (pa_cons (pe_un un_neg pe_int) (pa_cons (pe_lst (pa_cons pe_int pa_nil)) pa_nil)))) (pa_cons (pe_tup (pa_cons pe_str (pa_cons pe_non (pa_cons (pe_lst (pa_cons pe_int pa_nil)) pa_nil)))) (pa_cons (pe_tup (pa_cons pe_str (pa_cons (pe_lst (pa_cons pe_int pa_nil)) (pa_cons (pe_lst (pa_cons pe_int pa_nil)) pa_nil)))) (pa_cons (pe_tup (pa_cons pe_str (pa_cons (pe_lst (pa_cons pe_int pa_nil)) pa_nil))) pa_nil))))))))
      (Evl.pss_cut (ps_set (i := 4) sc_law_u_bent.nd rfl (Or.inl rfl) (pe_op op_cat (pv 4) (pe_lst (pa_cons (pe_tup (pa_cons pe_str (pa_cons (pe_lst (pa_cons pe_int pa_nil)) (pa_cons (pe_lst (pa_cons pe_int pa_nil)) pa_nil)))) (pa_cons (pe_tup (pa_cons pe_str pa_nil)) (pa_cons (pe_lst (pa_cons pe_str (pa_cons (pe_lst (pa_cons pe_int pa_nil)) pa_nil))) (pa_cons (pe_tup (pa_cons pe_str (pa_cons (pe_lst (pa_cons pe_int pa_nil)) pa_nil))) (pa_cons (pe_tup (pa_cons pe_non (pa_cons (pe_lst (pa_cons pe_int pa_nil)) pa_nil))) (pa_cons (pe_tup (pa_cons (pe_lst (pa_cons pe_str pa_nil)) (pa_cons (pe_lst (pa_cons pe_int pa_nil)) pa_nil))) (pa_cons pe_non pa_nil))))))))))
      (Evl.pss_cut (ps_set (i := 4) sc_law_u_bent.nd rfl (Or.inl rfl) (pe_op op_cat (pv 4) (pe_lst (pa_cons (pe_tup (pa_cons pe_str (pa_cons pe_int (pa_cons (pe_lst (pa_cons pe_int pa_nil)) pa_nil)))) (pa_cons (pe_tup (pa_cons pe_str (pa_cons pe_int (pa_cons (pe_lst (pa_cons pe_int pa_nil)) pa_nil)))) (pa_cons (pe_tup (pa_cons pe_str (pa_cons pe_int (pa_cons pe_int (pa_cons (pe_lst (pa_cons pe_int pa_nil)) pa_nil))))) (pa_cons (pe_tup pa_nil) (pa_cons pe_str (pa_cons (pe_tup (pa_cons pe_str pa_nil)) pa_nil)))))))))
      (Evl.pss_cut (ps_expr (pe_bm PySem.F.plainAttrs_list PySem.F.slot_list_append PySem.F.type_list_append mt_append (pv 4) (pa_cons (pe_tup (pa_cons pe_str (pa_cons pe_int (pa_cons (pe_lst pa_nil) pa_nil)))) pa_nil)))
      (Evl.pss_cut (ps_set (i := 5) sc_law_u_bent.nd rfl (Or.inl rfl) (pe_op op_cat (pe_op op_cat (pe_slice sl_list (pv 1) po_none (po_some (pv 2))) (pe_lst (pa_cons (pe_call (ok_law_u_pick T) (hr.mono (by decide)) rfl T.g_law_u_pick T.F_law_u_pick.kp T.b_law_u_pick .nil pass0 (pa_cons (pv 0) (pa_cons (pv 4) pa_nil))) pa_nil))) (pe_slice sl_list (pv 1) (po_some (pe_op op_add (pv 2) (pe_call (ok_law_take T) (hr.mono (by decide)) rfl T.g_law_take T.F_law_take.kp T.b_law_take .nil pass0 (pa_cons (pv 0) (pa_cons pe_int pa_nil))))) po_none)))
      (pss_one (ps_ret (pe_call (ok_law_u_pick T) (hr.mono (by decide)) rfl T.g_law_u_pick T.F_law_u_pick.kp T.b_law_u_pick .nil pass0 (pa_cons (pv 0) (pa_cons (pe_op op_cat (pe_op op_rep (pe_lst (pa_cons (pv 5) pa_nil)) pe_int) (pe_lst (pa_cons (pe_callTy call_tuple_of rfl T.z_tuple boot_tuple (pa_cons (pv 1) pa_nil)) (pa_cons pe_non (pa_cons pe_dnewK (pa_cons pe_str (pa_cons pe_int (pa_cons (pe_tup (pa_cons (pv 5) pa_nil)) (pa_cons (pe_lst (pa_cons (pv 1) pa_nil)) (pa_cons (pe_op op_cat (pv 1) (pe_lst (pa_cons (pv 1) pa_nil))) pa_nil)))))))))) pa_nil))))))))))))), ?_⟩
    have hs : SqL K (OffS S H) a xs := SqL.of (by rw [off_ne aS]; exact ga0)
    have nap : a ≠ p := fun z => aS (z ▸ pS)
    have hxl := ha.len
    refine ⟨_, rfl, _, rfl, _, _, rfl, .inl ⟨_, (off_sub S H).seq hs, rfl⟩, _, _, rfl, rfl, take_n (xs.length + 1) hp (by omega) (by omega) (by omega) fun at_ H1 hat d1 => ?_⟩
    -- octets
    refine ⟨fun σ' H' => ∃ (oc : V) (od : PyData), σ' = [some (.ref p), some (.ref a), some (.int (at_ : Nat)), some oc, none, none] ∧ Drew p c H H' (n + 2) ∧ Dv K (OffS S H') oc od ∧ Sz 3200 2 od, ?_, ?_⟩
    · have hid := hS.drew d1
      have P := d1.pen
      have b := d1.but
      clear d1
      refine ⟨_, rfl, ?_⟩
      refine ⟨by show 1 ≤ sizeLine; decide, fun y1 hy1 => ?_⟩
      obtain ⟨sy, hid, e1⟩ := layL (K := K) (ys := [.int 256]) (es := [.int 256]) hy1 hid (.cons (.int _) .nil)
      have P := P.keep sy
      have b := b.trans (But.of sy)
      generalize upd H1 y1 (.lst [.int 256]) = Hy1 at sy hid e1 P b ⊢
      clear sy
      refine ⟨_, rfl, by show 1 ≤ sizeLine; decide, fun y2 hy2 => ?_⟩
      obtain ⟨sy, hid, e2⟩ := layL (K := K) (ys := [.int (-1)]) (es := [.int (-1)]) hy2 hid (.cons (.int _) .nil)
      have P := P.keep sy
      have b := b.trans (But.of sy)
      have e1 := e1.keep sy.off
      generalize upd Hy1 y2 (.lst [.int (-1)]) = Hy2 at sy hid e2 P b e1 ⊢
      clear sy
      refine ⟨by show 1 ≤ sizeLine; decide, fun y3 hy3 => ?_⟩
      obtain ⟨sy, hid, e3⟩ := layL (K := K) (ys := [.bl true]) (es := [.bool true]) hy3 hid (.cons (.bl _) .nil)
      have P := P.keep sy
      have b := b.trans (But.of sy)
      have e1 := e1.keep sy.off
      have e2 := e2.keep sy.off
      generalize upd Hy2 y3 (.lst [.bl true]) = Hy3 at sy hid e3 P b e1 e2 ⊢
      clear sy
      refine ⟨by show 3 ≤ sizeLine; decide, fun y4 hy4 => ?_⟩
      obtain ⟨sy, hid, e4⟩ := layL (K := K) (ys := [.int 1, .bl false, .int 2]) (es := [.int 1, .bool false, .int 2]) hy4 hid (.cons (.int _) (.cons (.bl _) (.cons (.int _) .nil)))
      have P := P.keep sy
      have b := b.trans (But.of sy)
      have e1 := e1.keep sy.off
      have e2 := e2.keep sy.off
      have e3 := e3.keep sy.off
      generalize upd Hy3 y4 (.lst [.int 1, .bl false, .int 2]) = Hy4 at sy hid e4 P b e1 e2 e3 ⊢
      clear sy
      refine ⟨by show 2 ≤ sizeLine; decide, fun y5 hy5 => ?_⟩
      obtain ⟨sy, hid, e5⟩ := layT (K := K) (ys := [.int 1, .int 2]) (es := [.int 1, .int 2]) hy5 hid (.cons (.int _) (.cons (.int _) .nil))
      have P := P.keep sy
      have b := b.trans (But.of sy)
      have e1 := e1.keep sy.off
      have e2 := e2.keep sy.off
      have e3 := e3.keep sy.off
      have e4 := e4.keep sy.off
      generalize upd Hy4 y5 (.tup [.int 1, .int 2]) = Hy5 at sy hid e5 P b e1 e2 e3 e4 ⊢
      clear sy
      refine ⟨by show 1 ≤ sizeLine; decide, fun y6 hy6 => ?_⟩
      obtain ⟨sy, hid, e6⟩ := layL (K := K) (ys := [.int 1]) (es := [.int 1]) hy6 hid (.cons (.int _) .nil)
      have P := P.keep sy
      have b := b.trans (But.of sy)
      have e1 := e1.keep sy.off
      have e2 := e2.keep sy.off
      have e3 := e3.keep sy.off
      have e4 := e4.keep sy.off
      have e5 := e5.keep sy.off
      generalize upd Hy5 y6 (.lst [.int 1]) = Hy6 at sy hid e6 P b e1 e2 e3 e4 e5 ⊢
      clear sy
      refine ⟨by show 1 ≤ sizeLine; decide, fun y7 hy7 => ?_⟩
      obtain ⟨sy, hid, e7⟩ := layL (K := K) (ys := [.ref y6]) (es := [.list [.int 1]]) hy7 hid (.cons e6 .nil)
      have P := P.keep sy
      have b := b.trans (But.of sy)
      have e1 := e1.keep sy.off
      have e2 := e2.keep sy.off
      have e3 := e3.keep sy.off
      have e4 := e4.keep sy.off
      have e5 := e5.keep sy.off
      have e6 := e6.keep sy.off
      generalize upd Hy6 y7 (.lst [.ref y6]) = Hy7 at sy hid e7 P b e1 e2 e3 e4 e5 e6 ⊢
      clear sy
      clear e6
      refine ⟨by show 1 ≤ sizeLine; decide, fun y8 hy8 => ?_⟩
      obtain ⟨sy, hid, e8⟩ := layL (K := K) (ys := [.non]) (es := [.none]) hy8 hid (.cons .non .nil)
      have P := P.keep sy
      have b := b.trans (But.of sy)
      have e1 := e1.keep sy.off
      have e2 := e2.keep sy.off
      have e3 := e3.keep sy.off
      have e4 := e4.keep sy.off
      have e5 := e5.keep sy.off
      have e7 := e7.keep sy.off
      generalize upd Hy7 y8 (.lst [.non]) = Hy8 at sy hid e8 P b e1 e2 e3 e4 e5 e7 ⊢
      clear sy
      refine ⟨by show 2 ≤ sizeLine; decide, fun y9 hy9 => ?_⟩
      obtain ⟨sy, hid, e9⟩ := layL (K := K) (ys := [.int 0, .int 255]) (es := [.int 0, .int 255]) hy9 hid (.cons (.int _) (.cons (.int _) .nil))
      have P := P.keep sy
      have b := b.trans (But.of sy)
      have e1 := e1.keep sy.off
      have e2 := e2.keep sy.off
      have e3 := e3.keep sy.off
      have e4 := e4.keep sy.off
      have e5 := e5.keep sy.off
      have e7 := e7.keep sy.off
      have e8 := e8.keep sy.off
      generalize upd Hy8 y9 (.lst [.int 0, .int 255]) = Hy9 at sy hid e9 P b e1 e2 e3 e4 e5 e7 e8 ⊢
      clear sy
      refine ⟨by show 0 ≤ sizeLine; decide, fun y10 hy10 => ?_⟩
      obtain ⟨sy, hid, e10⟩ := layL (K := K) (ys := []) (es := []) hy10 hid .nil
      have P := P.keep sy
      have b := b.trans (But.of sy)
      have e1 := e1.keep sy.off
      have e2 := e2.keep sy.off
      have e3 := e3.keep sy.off
      have e4 := e4.keep sy.off
      have e5 := e5.keep sy.off
      have e7 := e7.keep sy.off
      have e8 := e8.keep sy.off
      have e9 := e9.keep sy.off
      generalize upd Hy9 y10 (.lst []) = Hy10 at sy hid e10 P b e1 e2 e3 e4 e5 e7 e8 e9 ⊢
      clear sy
      intro y11 hy11
      obtain ⟨sy, hid, e11⟩ := layD (K := K) hy11 hid 
      have P := P.keep sy
      have b := b.trans (But.of sy)
      have e1 := e1.keep sy.off
      have e2 := e2.keep sy.off
      have e3 := e3.keep sy.off
      have e4 := e4.keep sy.off
      have e5 := e5.keep sy.off
      have e7 := e7.keep sy.off
      have e8 := e8.keep sy.off
      have e9 := e9.keep sy.off
      have e10 := e10.keep sy.off
      generalize upd Hy10 y11 (.dK []) = Hy11 at sy hid e11 P b e1 e2 e3 e4 e5 e7 e8 e9 e10 ⊢
      clear sy
      have B : DvAll K (OffS S Hy11) [.ref y1, .ref y2, .ref y3, .ref y4, .ref y5, .non, .str "1", .ref y7, .ref y8, .ref y9, .ref y10, .ref y11] [.list [.int 256], .list [.int (-1)], .list [.bool true], .list [.int 1, .bool false, .int 2], .tuple [.int 1, .int 2], .none, .str "1", .list [.list [.int 1]], .list [.none], .list [.int 0, .int 255], .list [], .dict []] := (.cons e1 (.cons e2 (.cons e3 (.cons e4 (.cons e5 (.cons .non (.cons (.str _) (.cons e7 (.cons e8 (.cons e9 (.cons e10 (.cons e11 .nil))))))))))))
      have hB : ∀ d ∈ ([.list [.int 256], .list [.int (-1)], .list [.bool true], .list [.int 1, .bool false, .int 2], .tuple [.int 1, .int 2], .none, .str "1", .list [.list [.int 1]], .list [.none], .list [.int 0, .int 255], .list [], .dict []] : List PyData), Sz 3200 2 d := by
        intro d hd
        simp only [List.mem_cons, List.not_mem_nil, or_false] at hd
        rcases hd with rfl | rfl | rfl | rfl | rfl | rfl | rfl | rfl | rfl | rfl | rfl | rfl <;> exact ⟨by decide +kernel, by decide, by decide⟩
      refine ⟨by show 12 ≤ sizeLine; decide, fun l hl => pick_new P hl (by simp) (by show 12 ≤ 1000; decide) (by omega) fun oc H2 hx d2 => ?_⟩
      obtain ⟨od, hod, hoc⟩ := (B.keep (d2.off pS)).mem hx
      exact ⟨oc, od, rfl, ⟨d2.pen, b.trans d2.but⟩, hoc, hB od hod⟩
    rintro σ' H2 ⟨oc, od, rfl, D2, hoc, zoc⟩
    clear d1
    -- some
    refine ⟨fun σ' H' => ∃ L, σ' = [some (.ref p), some (.ref a), some (.int (at_ : Nat)), some oc, some (.ref L), none] ∧ SomeI K p c S H H' (n + 3) 4 L, ?_, ?_⟩
    · have hid := hS.drew D2
      have P := D2.pen
      have b := D2.but
      clear D2
      refine ⟨_, rfl, by show 2 ≤ sizeLine; decide, fun y1 hy1 => ?_⟩
      obtain ⟨sy, hid, e1⟩ := layT (K := K) (ys := [.str "table", oc]) (es := [.str "table", od]) hy1 hid (.cons (.str _) (.cons hoc .nil))
      have P := P.keep sy
      have b := b.trans (But.of sy)
      have hoc := hoc.keep sy.off
      generalize upd H2 y1 (.tup [.str "table", oc]) = Hy1 at sy hid e1 P b hoc ⊢
      clear sy
      refine ⟨_, rfl, by show 2 ≤ sizeLine; decide, fun y2 hy2 => ?_⟩
      obtain ⟨sy, hid, e2⟩ := layT (K := K) (ys := [.str "answer", oc]) (es := [.str "answer", od]) hy2 hid (.cons (.str _) (.cons hoc .nil))
      have P := P.keep sy
      have b := b.trans (But.of sy)
      have hoc := hoc.keep sy.off
      have e1 := e1.keep sy.off
      generalize upd Hy1 y2 (.tup [.str "answer", oc]) = Hy2 at sy hid e2 P b hoc e1 ⊢
      clear sy
      refine ⟨_, rfl, by show 3 ≤ sizeLine; decide, fun y3 hy3 => ?_⟩
      obtain ⟨sy, hid, e3⟩ := layT (K := K) (ys := [.str "block", .int 3, oc]) (es := [.str "block", .int 3, od]) hy3 hid (.cons (.str _) (.cons (.int _) (.cons hoc .nil)))
      have P := P.keep sy
      have b := b.trans (But.of sy)
      have hoc := hoc.keep sy.off
      have e1 := e1.keep sy.off
      have e2 := e2.keep sy.off
      generalize upd Hy2 y3 (.tup [.str "block", .int 3, oc]) = Hy3 at sy hid e3 P b hoc e1 e2 ⊢
      clear sy
      refine ⟨_, rfl, take_n 23 P (by decide) (by decide) (by omega) fun k4 Hy4 hk4 dy4 => ?_⟩
      have hid := hid.drew dy4
      have P := dy4.pen
      have b := b.trans dy4.but
      have hoc := hoc.keep (dy4.off pS)
      have e1 := e1.keep (dy4.off pS)
      have e2 := e2.keep (dy4.off pS)
      have e3 := e3.keep (dy4.off pS)
      refine ⟨by show 1 ≤ sizeLine; decide, fun y5 hy5 => ?_⟩
      obtain ⟨sy, hid, e5⟩ := layL (K := K) (ys := [.int 1]) (es := [.int 1]) hy5 hid (.cons (.int _) .nil)
      have P := P.keep sy
      have b := b.trans (But.of sy)
      have hoc := hoc.keep sy.off
      have e1 := e1.keep sy.off
      have e2 := e2.keep sy.off
      have e3 := e3.keep sy.off
      generalize upd Hy4 y5 (.lst [.int 1]) = Hy5 at sy hid e5 P b hoc e1 e2 e3 ⊢
      clear sy
      refine ⟨by show 3 ≤ sizeLine; decide, fun y6 hy6 => ?_⟩
      obtain ⟨sy, hid, e6⟩ := layT (K := K) (ys := [.str "block", .int (k4 : Nat), .ref y5]) (es := [.str "block", .int (k4 : Nat), .list [.int 1]]) hy6 hid (.cons (.str _) (.cons (.int _) (.cons e5 .nil)))
      have P := P.keep sy
      have b := b.trans (But.of sy)
      have hoc := hoc.keep sy.off
      have e1 := e1.keep sy.off
      have e2 := e2.keep sy.off
      have e3 := e3.keep sy.off
      have e5 := e5.keep sy.off
      generalize upd Hy5 y6 (.tup [.str "block", .int (k4 : Nat), .ref y5]) = Hy6 at sy hid e6 P b hoc e1 e2 e3 e5 ⊢
      clear sy
      clear e5
      have hB : ∀ d ∈ ([.tuple [.str "table", od], .tuple [.str "answer", od], .tuple [.str "block", .int 3, od], .tuple [.str "block", .int (k4 : Nat), .list [.int 1]]] : List PyData), Sz 6000 3 d := by
        intro d hd
        simp only [List.mem_cons, List.not_mem_nil, or_false] at hd
        rcases hd with rfl | rfl | rfl | rfl
        · exact sz_od zoc (by decide +kernel) (by decide +kernel) (by decide)
        · exact sz_od zoc (by decide +kernel) (by decide +kernel) (by decide)
        · exact sz_od3 zoc
        · exact sz_bk (by omega)
      refine ⟨by show 4 ≤ sizeLine; decide, fun la hla => ⟨la, rfl, someI_new (K := K) (ys := [.ref y1, .ref y2, .ref y3, .ref y6]) (es := [.tuple [.str "table", od], .tuple [.str "answer", od], .tuple [.str "block", .int 3, od], .tuple [.str "block", .int (k4 : Nat), .list [.int 1]]]) (Drew.mono ⟨P, b⟩ (by omega)) hid hla (.cons e1 (.cons e2 (.cons e3 (.cons e6 .nil)))) hB⟩⟩
    rintro σ' H3 ⟨L, rfl, I3⟩
    clear D2 hoc
    refine ⟨fun σ' H' => ∃ L, σ' = [some (.ref p), some (.ref a), some (.int (at_ : Nat)), some oc, some (.ref L), none] ∧ SomeI K p c S H H' (n + 3) 9 L, ?_, ?_⟩
    · obtain ⟨⟨P, b⟩, hLp, hLc, hLH, zs, des, gl, hid, B, hzB, hm⟩ := I3
      have B := B.keep off_less
      have hid := Hid.less hid
      refine ⟨_, rfl, by show 1 ≤ sizeLine; decide, fun y1 hy1 => ?_⟩
      obtain ⟨sy, hid, e1⟩ := layL (K := K) (ys := [.int 1]) (es := [.int 1]) hy1 hid (.cons (.int _) .nil)
      have P := P.keep sy
      have b := b.trans (But.of sy)
      have B := B.keep sy.off
      have gl := sy _ _ gl
      generalize upd H3 y1 (.lst [.int 1]) = Hy1 at sy hid e1 P b B gl ⊢
      clear sy
      refine ⟨by show 3 ≤ sizeLine; decide, fun y2 hy2 => ?_⟩
      obtain ⟨sy, hid, e2⟩ := layT (K := K) (ys := [.str "block", .bl true, .ref y1]) (es := [.str "block", .bool true, .list [.int 1]]) hy2 hid (.cons (.str _) (.cons (.bl _) (.cons e1 .nil)))
      have P := P.keep sy
      have b := b.trans (But.of sy)
      have B := B.keep sy.off
      have e1 := e1.keep sy.off
      have gl := sy _ _ gl
      generalize upd Hy1 y2 (.tup [.str "block", .bl true, .ref y1]) = Hy2 at sy hid e2 P b B e1 gl ⊢
      clear sy
      clear e1
      refine ⟨_, rfl, by show 1 ≤ sizeLine; decide, fun y3 hy3 => ?_⟩
      obtain ⟨sy, hid, e3⟩ := layL (K := K) (ys := [.int 1]) (es := [.int 1]) hy3 hid (.cons (.int _) .nil)
      have P := P.keep sy
      have b := b.trans (But.of sy)
      have B := B.keep sy.off
      have e2 := e2.keep sy.off
      have gl := sy _ _ gl
      generalize upd Hy2 y3 (.lst [.int 1]) = Hy3 at sy hid e3 P b B e2 gl ⊢
      clear sy
      refine ⟨by show 3 ≤ sizeLine; decide, fun y4 hy4 => ?_⟩
      obtain ⟨sy, hid, e4⟩ := layT (K := K) (ys := [.str "block", .int (-1), .ref y3]) (es := [.str "block", .int (-1), .list [.int 1]]) hy4 hid (.cons (.str _) (.cons (.int _) (.cons e3 .nil)))
      have P := P.keep sy
      have b := b.trans (But.of sy)
      have B := B.keep sy.off
      have e2 := e2.keep sy.off
      have e3 := e3.keep sy.off
      have gl := sy _ _ gl
      generalize upd Hy3 y4 (.tup [.str "block", .int (-1), .ref y3]) = Hy4 at sy hid e4 P b B e2 e3 gl ⊢
      clear sy
      clear e3
      refine ⟨by show 1 ≤ sizeLine; decide, fun y5 hy5 => ?_⟩
      obtain ⟨sy, hid, e5⟩ := layL (K := K) (ys := [.int 1]) (es := [.int 1]) hy5 hid (.cons (.int _) .nil)
      have P := P.keep sy
      have b := b.trans (But.of sy)
      have B := B.keep sy.off
      have e2 := e2.keep sy.off
      have e4 := e4.keep sy.off
      have gl := sy _ _ gl
      generalize upd Hy4 y5 (.lst [.int 1]) = Hy5 at sy hid e5 P b B e2 e4 gl ⊢
      clear sy
      refine ⟨by show 3 ≤ sizeLine; decide, fun y6 hy6 => ?_⟩
      obtain ⟨sy, hid, e6⟩ := layT (K := K) (ys := [.str "block", .non, .ref y5]) (es := [.str "block", .none, .list [.int 1]]) hy6 hid (.cons (.str _) (.cons .non (.cons e5 .nil)))
      have P := P.keep sy
      have b := b.trans (But.of sy)
      have B := B.keep sy.off
      have e2 := e2.keep sy.off
      have e4 := e4.keep sy.off
      have e5 := e5.keep sy.off
      have gl := sy _ _ gl
      generalize upd Hy5 y6 (.tup [.str "block", .non, .ref y5]) = Hy6 at sy hid e6 P b B e2 e4 e5 gl ⊢
      clear sy
      clear e5
      refine ⟨by show 1 ≤ sizeLine; decide, fun y7 hy7 => ?_⟩
      obtain ⟨sy, hid, e7⟩ := layL (K := K) (ys := [.int 1]) (es := [.int 1]) hy7 hid (.cons (.int _) .nil)
      have P := P.keep sy
      have b := b.trans (But.of sy)
      have B := B.keep sy.off
      have e2 := e2.keep sy.off
      have e4 := e4.keep sy.off
      have e6 := e6.keep sy.off
      have gl := sy _ _ gl
      generalize upd Hy6 y7 (.lst [.int 1]) = Hy7 at sy hid e7 P b B e2 e4 e6 gl ⊢
      clear sy
      refine ⟨by show 1 ≤ sizeLine; decide, fun y8 hy8 => ?_⟩
      obtain ⟨sy, hid, e8⟩ := layL (K := K) (ys := [.int 1]) (es := [.int 1]) hy8 hid (.cons (.int _) .nil)
      have P := P.keep sy
      have b := b.trans (But.of sy)
      have B := B.keep sy.off
      have e2 := e2.keep sy.off
      have e4 := e4.keep sy.off
      have e6 := e6.keep sy.off
      have e7 := e7.keep sy.off
      have gl := sy _ _ gl
      generalize upd Hy7 y8 (.lst [.int 1]) = Hy8 at sy hid e8 P b B e2 e4 e6 e7 gl ⊢
      clear sy
      refine ⟨by show 3 ≤ sizeLine; decide, fun y9 hy9 => ?_⟩
      obtain ⟨sy, hid, e9⟩ := layT (K := K) (ys := [.str "block", .ref y7, .ref y8]) (es := [.str "block", .list [.int 1], .list [.int 1]]) hy9 hid (.cons (.str _) (.cons e7 (.cons e8 .nil)))
      have P := P.keep sy
      have b := b.trans (But.of sy)
      have B := B.keep sy.off
      have e2 := e2.keep sy.off
      have e4 := e4.keep sy.off
      have e6 := e6.keep sy.off
      have e7 := e7.keep sy.off
      have e8 := e8.keep sy.off
      have gl := sy _ _ gl
      generalize upd Hy8 y9 (.tup [.str "block", .ref y7, .ref y8]) = Hy9 at sy hid e9 P b B e2 e4 e6 e7 e8 gl ⊢
      clear sy
      clear e7
      clear e8
      refine ⟨by show 1 ≤ sizeLine; decide, fun y10 hy10 => ?_⟩
      obtain ⟨sy, hid, e10⟩ := layL (K := K) (ys := [.int 1]) (es := [.int 1]) hy10 hid (.cons (.int _) .nil)
      have P := P.keep sy
      have b := b.trans (But.of sy)
      have B := B.keep sy.off
      have e2 := e2.keep sy.off
      have e4 := e4.keep sy.off
      have e6 := e6.keep sy.off
      have e9 := e9.keep sy.off
      have gl := sy _ _ gl
      generalize upd Hy9 y10 (.lst [.int 1]) = Hy10 at sy hid e10 P b B e2 e4 e6 e9 gl ⊢
      clear sy
      refine ⟨by show 2 ≤ sizeLine; decide, fun y11 hy11 => ?_⟩
      obtain ⟨sy, hid, e11⟩ := layT (K := K) (ys := [.str "block", .ref y10]) (es := [.str "block", .list [.int 1]]) hy11 hid (.cons (.str _) (.cons e10 .nil))
      have P := P.keep sy
      have b := b.trans (But.of sy)
      have B := B.keep sy.off
      have e2 := e2.keep sy.off
      have e4 := e4.keep sy.off
      have e6 := e6.keep sy.off
      have e9 := e9.keep sy.off
      have e10 := e10.keep sy.off
      have gl := sy _ _ gl
      generalize upd Hy10 y11 (.tup [.str "block", .ref y10]) = Hy11 at sy hid e11 P b B e2 e4 e6 e9 e10 gl ⊢
      clear sy
      clear e10
      have hB : ∀ d ∈ ([.tuple [.str "block", .bool true, .list [.int 1]], .tuple [.str "block", .int (-1), .list [.int 1]], .tuple [.str "block", .none, .list [.int 1]], .tuple [.str "block", .list [.int 1], .list [.int 1]], .tuple [.str "block", .list [.int 1]]] : List PyData), Sz 6000 3 d := by
        intro d hd
        simp only [List.mem_cons, List.not_mem_nil, or_false] at hd
        rcases hd with rfl | rfl | rfl | rfl | rfl
        · exact ⟨by decide +kernel, by decide, by decide⟩
        · exact ⟨by decide +kernel, by decide, by decide⟩
        · exact ⟨by decide +kernel, by decide, by decide⟩
        · exact ⟨by decide +kernel, by decide, by decide⟩
        · exact ⟨by decide +kernel, by decide, by decide⟩
      refine ⟨by show 5 ≤ sizeLine; decide, fun lb hlb => ?_⟩
      refine ⟨L, lb, _, _, rfl, rfl, (Same.new hlb) _ _ gl, upd_same, by rw [hm]; show 4 + 5 ≤ sizeLine; decide, fun lc hlc => ?_⟩
      exact ⟨lc, rfl, someI_sum (K := K) (ys := [.ref y2, .ref y4, .ref y6, .ref y9, .ref y11]) (es := [.tuple [.str "block", .bool true, .list [.int 1]], .tuple [.str "block", .int (-1), .list [.int 1]], .tuple [.str "block", .none, .list [.int 1]], .tuple [.str "block", .list [.int 1], .list [.int 1]], .tuple [.str "block", .list [.int 1]]]) B hzB hm ⟨P, b⟩ hlb hid (.cons e2 (.cons e4 (.cons e6 (.cons e9 (.cons e11 .nil))))) hB hlc⟩
    clear I3 L
    rintro σ' H4 ⟨L, rfl, I3⟩
    refine ⟨fun σ' H' => ∃ L, σ' = [some (.ref p), some (.ref a), some (.int (at_ : Nat)), some oc, some (.ref L), none] ∧ SomeI K p c S H H' (n + 3) 16 L, ?_, ?_⟩
    · obtain ⟨⟨P, b⟩, hLp, hLc, hLH, zs, des, gl, hid, B, hzB, hm⟩ := I3
      have B := B.keep off_less
      have hid := Hid.less hid
      refine ⟨_, rfl, by show 1 ≤ sizeLine; decide, fun y1 hy1 => ?_⟩
      obtain ⟨sy, hid, e1⟩ := layL (K := K) (ys := [.int 1]) (es := [.int 1]) hy1 hid (.cons (.int _) .nil)
      have P := P.keep sy
      have b := b.trans (But.of sy)
      have B := B.keep sy.off
      have gl := sy _ _ gl
      generalize upd H4 y1 (.lst [.int 1]) = Hy1 at sy hid e1 P b B gl ⊢
      clear sy
      refine ⟨by show 1 ≤ sizeLine; decide, fun y2 hy2 => ?_⟩
      obtain ⟨sy, hid, e2⟩ := layL (K := K) (ys := [.int 2]) (es := [.int 2]) hy2 hid (.cons (.int _) .nil)
      have P := P.keep sy
      have b := b.trans (But.of sy)
      have B := B.keep sy.off
      have e1 := e1.keep sy.off
      have gl := sy _ _ gl
      generalize upd Hy1 y2 (.lst [.int 2]) = Hy2 at sy hid e2 P b B e1 gl ⊢
      clear sy
      refine ⟨by show 3 ≤ sizeLine; decide, fun y3 hy3 => ?_⟩
      obtain ⟨sy, hid, e3⟩ := layT (K := K) (ys := [.str "table", .ref y1, .ref y2]) (es := [.str "table", .list [.int 1], .list [.int 2]]) hy3 hid (.cons (.str _) (.cons e1 (.cons e2 .nil)))
      have P := P.keep sy
      have b := b.trans (But.of sy)
      have B := B.keep sy.off
      have e1 := e1.keep sy.off
      have e2 := e2.keep sy.off
      have gl := sy _ _ gl
      generalize upd Hy2 y3 (.tup [.str "table", .ref y1, .ref y2]) = Hy3 at sy hid e3 P b B e1 e2 gl ⊢
      clear sy
      clear e1
      clear e2
      refine ⟨by show 1 ≤ sizeLine; decide, fun y4 hy4 => ?_⟩
      obtain ⟨sy, hid, e4⟩ := layT (K := K) (ys := [.str "table"]) (es := [.str "table"]) hy4 hid (.cons (.str _) .nil)
      have P := P.keep sy
      have b := b.trans (But.of sy)
      have B := B.keep sy.off
      have e3 := e3.keep sy.off
      have gl := sy _ _ gl
      generalize upd Hy3 y4 (.tup [.str "table"]) = Hy4 at sy hid e4 P b B e3 gl ⊢
      clear sy
      refine ⟨by show 1 ≤ sizeLine; decide, fun y5 hy5 => ?_⟩
      obtain ⟨sy, hid, e5⟩ := layL (K := K) (ys := [.int 1]) (es := [.int 1]) hy5 hid (.cons (.int _) .nil)
      have P := P.keep sy
      have b := b.trans (But.of sy)
      have B := B.keep sy.off
      have e3 := e3.keep sy.off
      have e4 := e4.keep sy.off
      have gl := sy _ _ gl
      generalize upd Hy4 y5 (.lst [.int 1]) = Hy5 at sy hid e5 P b B e3 e4 gl ⊢
      clear sy
      refine ⟨by show 2 ≤ sizeLine; decide, fun y6 hy6 => ?_⟩
      obtain ⟨sy, hid, e6⟩ := layL (K := K) (ys := [.str "table", .ref y5]) (es := [.str "table", .list [.int 1]]) hy6 hid (.cons (.str _) (.cons e5 .nil))
      have P := P.keep sy
      have b := b.trans (But.of sy)
      have B := B.keep sy.off
      have e3 := e3.keep sy.off
      have e4 := e4.keep sy.off
      have e5 := e5.keep sy.off
      have gl := sy _ _ gl
      generalize upd Hy5 y6 (.lst [.str "table", .ref y5]) = Hy6 at sy hid e6 P b B e3 e4 e5 gl ⊢
      clear sy
      clear e5
      refine ⟨by show 1 ≤ sizeLine; decide, fun y7 hy7 => ?_⟩
      obtain ⟨sy, hid, e7⟩ := layL (K := K) (ys := [.int 1]) (es := [.int 1]) hy7 hid (.cons (.int _) .nil)
      have P := P.keep sy
      have b := b.trans (But.of sy)
      have B := B.keep sy.off
      have e3 := e3.keep sy.off
      have e4 := e4.keep sy.off
      have e6 := e6.keep sy.off
      have gl := sy _ _ gl
      generalize upd Hy6 y7 (.lst [.int 1]) = Hy7 at sy hid e7 P b B e3 e4 e6 gl ⊢
      clear sy
      refine ⟨by show 2 ≤ sizeLine; decide, fun y8 hy8 => ?_⟩
      obtain ⟨sy, hid, e8⟩ := layT (K := K) (ys := [.str "Table", .ref y7]) (es := [.str "Table", .list [.int 1]]) hy8 hid (.cons (.str _) (.cons e7 .nil))
      have P := P.keep sy
      have b := b.trans (But.of sy)
      have B := B.keep sy.off
      have e3 := e3.keep sy.off
      have e4 := e4.keep sy.off
      have e6 := e6.keep sy.off
      have e7 := e7.keep sy.off
      have gl := sy _ _ gl
      generalize upd Hy7 y8 (.tup [.str "Table", .ref y7]) = Hy8 at sy hid e8 P b B e3 e4 e6 e7 gl ⊢
      clear sy
      clear e7
      refine ⟨by show 1 ≤ sizeLine; decide, fun y9 hy9 => ?_⟩
      obtain ⟨sy, hid, e9⟩ := layL (K := K) (ys := [.int 1]) (es := [.int 1]) hy9 hid (.cons (.int _) .nil)
      have P := P.keep sy
      have b := b.trans (But.of sy)
      have B := B.keep sy.off
      have e3 := e3.keep sy.off
      have e4 := e4.keep sy.off
      have e6 := e6.keep sy.off
      have e8 := e8.keep sy.off
      have gl := sy _ _ gl
      generalize upd Hy8 y9 (.lst [.int 1]) = Hy9 at sy hid e9 P b B e3 e4 e6 e8 gl ⊢
      clear sy
      refine ⟨by show 2 ≤ sizeLine; decide, fun y10 hy10 => ?_⟩
      obtain ⟨sy, hid, e10⟩ := layT (K := K) (ys := [.non, .ref y9]) (es := [.none, .list [.int 1]]) hy10 hid (.cons .non (.cons e9 .nil))
      have P := P.keep sy
      have b := b.trans (But.of sy)
      have B := B.keep sy.off
      have e3 := e3.keep sy.off
      have e4 := e4.keep sy.off
      have e6 := e6.keep sy.off
      have e8 := e8.keep sy.off
      have e9 := e9.keep sy.off
      have gl := sy _ _ gl
      generalize upd Hy9 y10 (.tup [.non, .ref y9]) = Hy10 at sy hid e10 P b B e3 e4 e6 e8 e9 gl ⊢
      clear sy
      clear e9
      refine ⟨by show 1 ≤ sizeLine; decide, fun y11 hy11 => ?_⟩
      obtain ⟨sy, hid, e11⟩ := layL (K := K) (ys := [.str "table"]) (es := [.str "table"]) hy11 hid (.cons (.str _) .nil)
      have P := P.keep sy
      have b := b.trans (But.of sy)
      have B := B.keep sy.off
      have e3 := e3.keep sy.off
      have e4 := e4.keep sy.off
      have e6 := e6.keep sy.off
      have e8 := e8.keep sy.off
      have e10 := e10.keep sy.off
      have gl := sy _ _ gl
      generalize upd Hy10 y11 (.lst [.str "table"]) = Hy11 at sy hid e11 P b B e3 e4 e6 e8 e10 gl ⊢
      clear sy
      refine ⟨by show 1 ≤ sizeLine; decide, fun y12 hy12 => ?_⟩
      obtain ⟨sy, hid, e12⟩ := layL (K := K) (ys := [.int 1]) (es := [.int 1]) hy12 hid (.cons (.int _) .nil)
      have P := P.keep sy
      have b := b.trans (But.of sy)
      have B := B.keep sy.off
      have e3 := e3.keep sy.off
      have e4 := e4.keep sy.off
      have e6 := e6.keep sy.off
      have e8 := e8.keep sy.off
      have e10 := e10.keep sy.off
      have e11 := e11.keep sy.off
      have gl := sy _ _ gl
      generalize upd Hy11 y12 (.lst [.int 1]) = Hy12 at sy hid e12 P b B e3 e4 e6 e8 e10 e11 gl ⊢
      clear sy
      refine ⟨by show 2 ≤ sizeLine; decide, fun y13 hy13 => ?_⟩
      obtain ⟨sy, hid, e13⟩ := layT (K := K) (ys := [.ref y11, .ref y12]) (es := [.list [.str "table"], .list [.int 1]]) hy13 hid (.cons e11 (.cons e12 .nil))
      have P := P.keep sy
      have b := b.trans (But.of sy)
      have B := B.keep sy.off
      have e3 := e3.keep sy.off
      have e4 := e4.keep sy.off
      have e6 := e6.keep sy.off
      have e8 := e8.keep sy.off
      have e10 := e10.keep sy.off
      have e11 := e11.keep sy.off
      have e12 := e12.keep sy.off
      have gl := sy _ _ gl
      generalize upd Hy12 y13 (.tup [.ref y11, .ref y12]) = Hy13 at sy hid e13 P b B e3 e4 e6 e8 e10 e11 e12 gl ⊢
      clear sy
      clear e11
      clear e12
      have hB : ∀ d ∈ ([.tuple [.str "table", .list [.int 1], .list [.int 2]], .tuple [.str "table"], .list [.str "table", .list [.int 1]], .tuple [.str "Table", .list [.int 1]], .tuple [.none, .list [.int 1]], .tuple [.list [.str "table"], .list [.int 1]], .none] : List PyData), Sz 6000 3 d := by
        intro d hd
        simp only [List.mem_cons, List.not_mem_nil, or_false] at hd
        rcases hd with rfl | rfl | rfl | rfl | rfl | rfl | rfl
        · exact ⟨by decide +kernel, by decide, by decide⟩
        · exact ⟨by decide +kernel, by decide, by decide⟩
        · exact ⟨by decide +kernel, by decide, by decide⟩
        · exact ⟨by decide +kernel, by decide, by decide⟩
        · exact ⟨by decide +kernel, by decide, by decide⟩
        · exact ⟨by decide +kernel, by decide, by decide⟩
        · exact ⟨by decide +kernel, by decide, by decide⟩
      refine ⟨by show 7 ≤ sizeLine; decide, fun lb hlb => ?_⟩
      refine ⟨L, lb, _, _, rfl, rfl, (Same.new hlb) _ _ gl, upd_same, by rw [hm]; show 9 + 7 ≤ sizeLine; decide, fun lc hlc => ?_⟩
      exact ⟨lc, rfl, someI_sum (K := K) (ys := [.ref y3, .ref y4, .ref y6, .ref y8, .ref y10, .ref y13, .non]) (es := [.tuple [.str "table", .list [.int 1], .list [.int 2]], .tuple [.str "table"], .list [.str "table", .list [.int 1]], .tuple [.str "Table", .list [.int 1]], .tuple [.none, .list [.int 1]], .tuple [.list [.str "table"], .list [.int 1]], .none]) B hzB hm ⟨P, b⟩ hlb hid (.cons e3 (.cons e4 (.cons e6 (.cons e8 (.cons e10 (.cons e13 (.cons .non .nil))))))) hB hlc⟩
    clear I3 L
    rintro σ' H5 ⟨L, rfl, I3⟩
    refine ⟨fun σ' H' => ∃ L, σ' = [some (.ref p), some (.ref a), some (.int (at_ : Nat)), some oc, some (.ref L), none] ∧ SomeI K p c S H H' (n + 3) 22 L, ?_, ?_⟩
    · obtain ⟨⟨P, b⟩, hLp, hLc, hLH, zs, des, gl, hid, B, hzB, hm⟩ := I3
      have B := B.keep off_less
      have hid := Hid.less hid
      refine ⟨_, rfl, by show 1 ≤ sizeLine; decide, fun y1 hy1 => ?_⟩
      obtain ⟨sy, hid, e1⟩ := layL (K := K) (ys := [.int 1]) (es := [.int 1]) hy1 hid (.cons (.int _) .nil)
      have P := P.keep sy
      have b := b.trans (But.of sy)
      have B := B.keep sy.off
      have gl := sy _ _ gl
      generalize upd H5 y1 (.lst [.int 1]) = Hy1 at sy hid e1 P b B gl ⊢
      clear sy
      refine ⟨by show 3 ≤ sizeLine; decide, fun y2 hy2 => ?_⟩
      obtain ⟨sy, hid, e2⟩ := layT (K := K) (ys := [.str "table", .int 1, .ref y1]) (es := [.str "table", .int 1, .list [.int 1]]) hy2 hid (.cons (.str _) (.cons (.int _) (.cons e1 .nil)))
      have P := P.keep sy
      have b := b.trans (But.of sy)
      have B := B.keep sy.off
      have e1 := e1.keep sy.off
      have gl := sy _ _ gl
      generalize upd Hy1 y2 (.tup [.str "table", .int 1, .ref y1]) = Hy2 at sy hid e2 P b B e1 gl ⊢
      clear sy
      clear e1
      refine ⟨by show 1 ≤ sizeLine; decide, fun y3 hy3 => ?_⟩
      obtain ⟨sy, hid, e3⟩ := layL (K := K) (ys := [.int 1]) (es := [.int 1]) hy3 hid (.cons (.int _) .nil)
      have P := P.keep sy
      have b := b.trans (But.of sy)
      have B := B.keep sy.off
      have e2 := e2.keep sy.off
      have gl := sy _ _ gl
      generalize upd Hy2 y3 (.lst [.int 1]) = Hy3 at sy hid e3 P b B e2 gl ⊢
      clear sy
      refine ⟨by show 3 ≤ sizeLine; decide, fun y4 hy4 => ?_⟩
      obtain ⟨sy, hid, e4⟩ := layT (K := K) (ys := [.str "answer", .int 1, .ref y3]) (es := [.str "answer", .int 1, .list [.int 1]]) hy4 hid (.cons (.str _) (.cons (.int _) (.cons e3 .nil)))
      have P := P.keep sy
      have b := b.trans (But.of sy)
      have B := B.keep sy.off
      have e2 := e2.keep sy.off
      have e3 := e3.keep sy.off
      have gl := sy _ _ gl
      generalize upd Hy3 y4 (.tup [.str "answer", .int 1, .ref y3]) = Hy4 at sy hid e4 P b B e2 e3 gl ⊢
      clear sy
      clear e3
      refine ⟨by show 1 ≤ sizeLine; decide, fun y5 hy5 => ?_⟩
      obtain ⟨sy, hid, e5⟩ := layL (K := K) (ys := [.int 1]) (es := [.int 1]) hy5 hid (.cons (.int _) .nil)
      have P := P.keep sy
      have b := b.trans (But.of sy)
      have B := B.keep sy.off
      have e2 := e2.keep sy.off
      have e4 := e4.keep sy.off
      have gl := sy _ _ gl
      generalize upd Hy4 y5 (.lst [.int 1]) = Hy5 at sy hid e5 P b B e2 e4 gl ⊢
      clear sy
      refine ⟨by show 4 ≤ sizeLine; decide, fun y6 hy6 => ?_⟩
      obtain ⟨sy, hid, e6⟩ := layT (K := K) (ys := [.str "block", .int 3, .int 4, .ref y5]) (es := [.str "block", .int 3, .int 4, .list [.int 1]]) hy6 hid (.cons (.str _) (.cons (.int _) (.cons (.int _) (.cons e5 .nil))))
      have P := P.keep sy
      have b := b.trans (But.of sy)
      have B := B.keep sy.off
      have e2 := e2.keep sy.off
      have e4 := e4.keep sy.off
      have e5 := e5.keep sy.off
      have gl := sy _ _ gl
      generalize upd Hy5 y6 (.tup [.str "block", .int 3, .int 4, .ref y5]) = Hy6 at sy hid e6 P b B e2 e4 e5 gl ⊢
      clear sy
      clear e5
      refine ⟨by show 0 ≤ sizeLine; decide, fun y7 hy7 => ?_⟩
      obtain ⟨sy, hid, e7⟩ := layT (K := K) (ys := []) (es := []) hy7 hid .nil
      have P := P.keep sy
      have b := b.trans (But.of sy)
      have B := B.keep sy.off
      have e2 := e2.keep sy.off
      have e4 := e4.keep sy.off
      have e6 := e6.keep sy.off
      have gl := sy _ _ gl
      generalize upd Hy6 y7 (.tup []) = Hy7 at sy hid e7 P b B e2 e4 e6 gl ⊢
      clear sy
      refine ⟨by show 1 ≤ sizeLine; decide, fun y8 hy8 => ?_⟩
      obtain ⟨sy, hid, e8⟩ := layT (K := K) (ys := [.str "send"]) (es := [.str "send"]) hy8 hid (.cons (.str _) .nil)
      have P := P.keep sy
      have b := b.trans (But.of sy)
      have B := B.keep sy.off
      have e2 := e2.keep sy.off
      have e4 := e4.keep sy.off
      have e6 := e6.keep sy.off
      have e7 := e7.keep sy.off
      have gl := sy _ _ gl
      generalize upd Hy7 y8 (.tup [.str "send"]) = Hy8 at sy hid e8 P b B e2 e4 e6 e7 gl ⊢
      clear sy
      have hB : ∀ d ∈ ([.tuple [.str "table", .int 1, .list [.int 1]], .tuple [.str "answer", .int 1, .list [.int 1]], .tuple [.str "block", .int 3, .int 4, .list [.int 1]], .tuple [], .str "table", .tuple [.str "send"]] : List PyData), Sz 6000 3 d := by
        intro d hd
        simp only [List.mem_cons, List.not_mem_nil, or_false] at hd
        rcases hd with rfl | rfl | rfl | rfl | rfl | rfl
        · exact ⟨by decide +kernel, by decide, by decide⟩
        · exact ⟨by decide +kernel, by decide, by decide⟩
        · exact ⟨by decide +kernel, by decide, by decide⟩
        · exact ⟨by decide +kernel, by decide, by decide⟩
        · exact ⟨by decide +kernel, by decide, by decide⟩
        · exact ⟨by decide +kernel, by decide, by decide⟩
      refine ⟨by show 6 ≤ sizeLine; decide, fun lb hlb => ?_⟩
      refine ⟨L, lb, _, _, rfl, rfl, (Same.new hlb) _ _ gl, upd_same, by rw [hm]; show 16 + 6 ≤ sizeLine; decide, fun lc hlc => ?_⟩
      exact ⟨lc, rfl, someI_sum (K := K) (ys := [.ref y2, .ref y4, .ref y6, .ref y7, .str "table", .ref y8]) (es := [.tuple [.str "table", .int 1, .list [.int 1]], .tuple [.str "answer", .int 1, .list [.int 1]], .tuple [.str "block", .int 3, .int 4, .list [.int 1]], .tuple [], .str "table", .tuple [.str "send"]]) B hzB hm ⟨P, b⟩ hlb hid (.cons e2 (.cons e4 (.cons e6 (.cons e7 (.cons (.str _) (.cons e8 .nil)))))) hB hlc⟩
    clear I3 L
    rintro σ' H6 ⟨L, rfl, I3⟩
    refine ⟨fun σ' H' => σ' = [some (.ref p), some (.ref a), some (.int (at_ : Nat)), some oc, some (.ref L), none] ∧ ∃ zs des, Drew p c H H' (n + 3) ∧ H' L = some (.lst zs) ∧ DvAll K (OffS S H') zs des ∧ (∀ d ∈ des, Sz 6000 3 d) ∧ zs.length = 23, ?_, ?_⟩
    · obtain ⟨⟨P, b⟩, hLp, hLc, hLH, zs, des, gl, hid, B, hzB, hm⟩ := I3
      refine ⟨_, rfl, .inl ⟨rfl, _, SqL.of gl⟩, ?_⟩
      refine ⟨by show 0 ≤ sizeLine; decide, fun y1 hy1 => ?_⟩
      obtain ⟨sy, hid, e1⟩ := layL (K := K) (ys := []) (es := []) hy1 hid .nil
      have P := P.keep sy
      have b := b.trans (But.of sy)
      have B := B.keep sy.off
      have gl := sy _ _ gl
      generalize upd H6 y1 (.lst []) = Hy1 at sy hid e1 P b B gl ⊢
      clear sy
      refine ⟨by show 3 ≤ sizeLine; decide, fun y2 hy2 => ?_⟩
      obtain ⟨sy, hid, e2⟩ := layT (K := K) (ys := [.str "block", .int 20, .ref y1]) (es := [.str "block", .int 20, .list []]) hy2 hid (.cons (.str _) (.cons (.int _) (.cons e1 .nil)))
      have P := P.keep sy
      have b := b.trans (But.of sy)
      have B := B.keep sy.off
      have e1 := e1.keep sy.off
      have gl := sy _ _ gl
      generalize upd Hy1 y2 (.tup [.str "block", .int 20, .ref y1]) = Hy2 at sy hid e2 P b B e1 gl ⊢
      clear sy
      clear e1
      refine ⟨L, _, _, rfl, rfl, gl, by rw [hm]; show 22 < sizeLine; decide, rfl, _, des ++ [.tuple [.str "block", .int 20, .list []]], ⟨penL P hLp hLc, b.put hLH⟩, upd_same, (B.app (.cons e2 .nil)).keep (off_put (S := S)), fun d hd => ?_, by rw [List.length_append, hm]; rfl⟩
      rcases List.mem_append.mp hd with h | h
      · exact hzB d h
      · rw [List.mem_singleton.mp h]; exact ⟨by decide +kernel, by decide, by decide⟩
    have hLp := I3.2.1
    clear I3
    rintro σ' H7 ⟨rfl, zs, des, D7, gl, B, hzB, hm⟩
    -- found
    refine ⟨fun σ' H' => ∃ (f : Addr) (fd : List PyData), σ' = [some (.ref p), some (.ref a), some (.int (at_ : Nat)), some oc, some (.ref L), some (.ref f)] ∧ Drew p c H H' (n + 5) ∧ Dv K (OffS S H') (.ref f) (.list fd) ∧ Sz 4320000 4 (.list fd), ?_, ?_⟩
    · have hs7 := (D7.off (S := S) pS).seq hs
      have ha7 := ha.keep (D7.off (S := S) pS)
      have hid7 := hS.drew D7
      refine ⟨_, rfl, _, rfl, _, rfl, a, _, rfl, (off_sub S H7).seq hs7, fun q1 hq1 => ?_⟩
      rw [cut_to]
      obtain ⟨s8, hid8, g8, A8⟩ := layM (K := K) hq1 hid7 (ha7.take at_)
      have hs8 := s8.off.seq hs7
      have ha8 := ha7.keep s8.off
      have B8 := B.keep s8.off
      have gl8 := s8 _ _ gl
      have D8 := D7.keep s8
      generalize upd H7 q1 (.lst (xs.take at_)) = H8 at hid8 g8 A8 hs8 ha8 B8 gl8 D8 ⊢
      refine ⟨_, rfl, _, rfl, p, c, L, _, zs, rfl, D8.pen, SqL.of gl8, hLp, (by intro z; rw [z] at hm; cases hm), by rw [hm]; decide, by omega, fun y H9 hy d9 => ?_⟩
      have o9 := d9.off (S := S) pS
      obtain ⟨dy, hdy, hyv⟩ := (B8.keep o9).mem hy
      have hs9 := o9.seq hs8
      have ha9 := ha8.keep o9
      have A9 := A8.keep o9
      have D9 := D8.trans d9
      have hid9 := hid8.drew d9
      have nq1 : q1 ≠ p := fun z => D7.pen.some_ (z ▸ hq1)
      have g9 := d9.but _ _ nq1 g8
      refine ⟨by show 1 ≤ sizeLine; decide, fun l1 hl1 => ?_⟩
      have lt1 : (xs.take at_).length ≤ 14 := by rw [List.length_take]; omega
      refine ⟨q1, l1, _, _, rfl, rfl, (Same.new hl1) _ _ g9, upd_same, by show (xs.take at_).length + 1 ≤ sizeLine; rw [sizeLine_eq]; omega, fun r1 hr1 => ?_⟩
      obtain ⟨s10, hid10, g10, A10⟩ := layS (K := K) (ys := [y]) (es := [dy]) A9 hl1 hid9 (.cons hyv .nil) hr1
      have hs10 := s10.off.seq hs9
      have ha10 := ha9.keep s10.off
      have D10 := D9.keep s10
      generalize upd (upd H9 l1 (.lst [y])) r1 (.lst (xs.take at_ ++ [y])) = H10 at hid10 g10 A10 hs10 ha10 D10 ⊢
      refine ⟨_, rfl, _, rfl, _, rfl, take_n 2 D10.pen (by decide) (by decide) (by omega) fun k H11 hk d11 => ?_⟩
      have o11 := d11.off (S := S) pS
      have hs11 := o11.seq hs10
      have ha11 := ha10.keep o11
      have A11 := A10.keep o11
      have D11 := D10.trans d11
      have hid11 := hid10.drew d11
      have nr1 : r1 ≠ p := fun z => ((D9.pen.keep (Same.new hl1)).some_) (z ▸ hr1)
      have g11 := d11.but _ _ nr1 g10
      refine ⟨_, _, rfl, rfl, _, rfl, a, _, rfl, (off_sub S H11).seq hs11, fun q2 hq2 => ?_⟩
      have ek : (at_ : Int) + (k : Int) = ((at_ + k : Nat) : Int) := by omega
      dsimp only
      rw [ek, cut_from]
      refine ⟨r1, q2, _, _, rfl, rfl, (Same.new hq2) _ _ g11, upd_same, by rw [List.length_append, List.length_drop]; show (xs.take at_).length + 1 + (xs.length - (at_ + k)) ≤ sizeLine; rw [sizeLine_eq]; omega, fun r2 hr2 => ?_⟩
      obtain ⟨s12, hid12, g12, A12⟩ := layS (K := K) (ys := xs.drop (at_ + k)) (es := ds.drop (at_ + k)) A11 hq2 hid11 (ha11.drop (at_ + k)) hr2
      have hzy := hzB dy hdy
      obtain ⟨zo, zw, zd⟩ := sz_lst hz
      refine ⟨r2, _, rfl, (D11.keep s12).mono (by omega), .lst (SqL.of (by rw [off_ne (hid11.not ((Same.new (o := .lst (xs.drop (at_ + k))) hq2).free hr2))]; exact g12)) A12, sz_lst' (k := 3) (okVAll_app' (okVAll_app' (okVAll_take at_ zo) (by rw [okVAll, okVAll, hzy.ok]; rfl)) (okVAll_drop (at_ + k) zo)) ?_ (depthAll_app (depthAll_app (depthAll_take at_ (Nat.le_trans zd (by omega))) (by rw [PyData.depthAll, PyData.depthAll]; have := hzy.dp; omega)) (depthAll_drop (at_ + k) (Nat.le_trans zd (by omega))))⟩
      have e1 : wVAll (ds.take at_) + wVAll (ds.drop at_) = wVAll ds := by rw [← wVAll_app, List.take_append_drop]
      have e2 : wVAll (ds.drop (at_ + k)) ≤ wVAll (ds.drop at_) := by
        rw [← List.drop_drop]
        have e3 := congrArg wVAll (List.take_append_drop k (ds.drop at_))
        rw [wVAll_app] at e3
        omega
      rw [wVAll_app, wVAll_app, wVAll, wVAll]
      have := hzy.w
      omega
    rintro σ' H8 ⟨f, fd, rfl, D8, hf, zf⟩
    clear gl B D7
    have hs := (D8.off (S := S) pS).seq hs
    have ha := ha.keep (D8.off (S := S) pS)
    have hid := hS.drew D8
    have P := D8.pen
    have b := D8.but
    have ga := D8.but _ _ nap ga0
    clear D8
    refine ⟨_, rfl, ?_⟩
    refine ⟨_, rfl, by show 1 ≤ sizeLine; decide, fun lf hlf => ?_⟩
    obtain ⟨sy, hid, gf, F1⟩ := layM (K := K) (ys := [.ref f]) (es := [.list fd]) hlf hid (.cons hf .nil)
    have P := P.keep sy
    have b := b.trans (But.of sy)
    have ha := ha.keep sy.off
    have hf := hf.keep sy.off
    have ga := sy _ _ ga
    have hs := sy.off.seq hs
    generalize upd H8 lf (.lst [.ref f]) = Hf at sy hid gf F1 P b ha hf ga hs ⊢
    clear sy
    refine ⟨lf, _, _, rfl, rfl, gf, by decide, by decide, by show 1 * 12 ≤ sizeLine; decide, fun lr hlr => ?_⟩
    have eR : (List.replicate (12 : Int).toNat [V.ref f]).flatten = List.replicate 12 (V.ref f) := rfl
    rw [eR]
    obtain ⟨sy, hid, gr, R⟩ := layM (K := K) (ys := List.replicate 12 (V.ref f)) (es := List.replicate 12 (.list fd)) hlr hid (DvAll.rep hf 12)
    have P := P.keep sy
    have b := b.trans (But.of sy)
    have ha := ha.keep sy.off
    have hf := hf.keep sy.off
    have ga := sy _ _ ga
    have hs := sy.off.seq hs
    generalize upd Hf lr (.lst (List.replicate 12 (V.ref f))) = Hr at sy hid gr R P b ha hf ga hs ⊢
    clear sy gf F1
    refine ⟨_, rfl, a, _, rfl, .inl ⟨(off_sub S Hr).seq hs, fun tb htb => ?_⟩⟩
    obtain ⟨sy, hid, e100⟩ := layT (K := K) htb hid ha
    have P := P.keep sy
    have b := b.trans (But.of sy)
    have ha := ha.keep sy.off
    have hf := hf.keep sy.off
    have R := R.keep sy.off
    have ga := sy _ _ ga
    have gr := sy _ _ gr
    have hs := sy.off.seq hs
    generalize upd Hr tb (.tup xs) = Hb at sy hid e100 P b ha hf R ga gr hs ⊢
    clear sy
    intro y1 hy1
    obtain ⟨sy, hid, e1⟩ := layD (K := K) hy1 hid 
    have P := P.keep sy
    have b := b.trans (But.of sy)
    have ha := ha.keep sy.off
    have hf := hf.keep sy.off
    have R := R.keep sy.off
    have e100 := e100.keep sy.off
    have ga := sy _ _ ga
    have gr := sy _ _ gr
    have hs := sy.off.seq hs
    generalize upd Hb y1 (.dK []) = Hy1 at sy hid e1 P b ha hf R e100 ga gr hs ⊢
    clear sy
    refine ⟨_, rfl, by show 1 ≤ sizeLine; decide, fun y2 hy2 => ?_⟩
    obtain ⟨sy, hid, e2⟩ := layT (K := K) (ys := [.ref f]) (es := [.list fd]) hy2 hid (.cons hf .nil)
    have P := P.keep sy
    have b := b.trans (But.of sy)
    have ha := ha.keep sy.off
    have hf := hf.keep sy.off
    have R := R.keep sy.off
    have e100 := e100.keep sy.off
    have e1 := e1.keep sy.off
    have ga := sy _ _ ga
    have gr := sy _ _ gr
    have hs := sy.off.seq hs
    generalize upd Hy1 y2 (.tup [.ref f]) = Hy2 at sy hid e2 P b ha hf R e100 e1 ga gr hs ⊢
    clear sy
    have hbk : Dv K (OffS S Hy2) (.ref a) (.list ds) := .lst hs ha
    refine ⟨_, rfl, by show 1 ≤ sizeLine; decide, fun y3 hy3 => ?_⟩
    obtain ⟨sy, hid, e3⟩ := layL (K := K) (ys := [.ref a]) (es := [.list ds]) hy3 hid (.cons hbk .nil)
    have P := P.keep sy
    have b := b.trans (But.of sy)
    have ha := ha.keep sy.off
    have hf := hf.keep sy.off
    have R := R.keep sy.off
    have e100 := e100.keep sy.off
    have e1 := e1.keep sy.off
    have e2 := e2.keep sy.off
    have hbk := hbk.keep sy.off
    have ga := sy _ _ ga
    have gr := sy _ _ gr
    have hs := sy.off.seq hs
    generalize upd Hy2 y3 (.lst [.ref a]) = Hy3 at sy hid e3 P b ha hf R e100 e1 e2 hbk ga gr hs ⊢
    clear sy
    refine ⟨_, rfl, _, rfl, by show 1 ≤ sizeLine; decide, fun lb hlb => ?_⟩
    refine ⟨a, lb, _, _, rfl, rfl, (Same.new hlb) _ _ ga, upd_same, by show xs.length + 1 ≤ sizeLine; rw [sizeLine_eq]; omega, fun lc hlc => ?_⟩
    have hcn := (Same.new (o := .lst [.ref a]) hlb).free hlc
    have hid0 := hid
    obtain ⟨sy, hid, gc, C⟩ := layS (K := K) (ys := [.ref a]) (es := [.list ds]) ha hlb hid (.cons hbk .nil) hlc
    have e200 : Dv K (OffS S (upd (upd Hy3 lb (.lst [.ref a])) lc (.lst (xs ++ [.ref a])))) (.ref lc) (.list (ds ++ [.list ds])) := .lst (SqL.of (by rw [off_ne (hid0.not hcn)]; exact gc)) C
    clear hid0 C gc
    have P := P.keep sy
    have b := b.trans (But.of sy)
    have ha := ha.keep sy.off
    have hf := hf.keep sy.off
    have R := R.keep sy.off
    have e100 := e100.keep sy.off
    have e1 := e1.keep sy.off
    have e2 := e2.keep sy.off
    have hbk := hbk.keep sy.off
    have e3 := e3.keep sy.off
    have ga := sy _ _ ga
    have gr := sy _ _ gr
    have hs := sy.off.seq hs
    generalize upd (upd Hy3 lb (.lst [.ref a])) lc (.lst (xs ++ [.ref a])) = Hc at sy hid e200 P b ha hf R e100 e1 e2 hbk e3 ga gr hs ⊢
    clear sy
    refine ⟨by show 8 ≤ sizeLine; decide, fun ld hld => ?_⟩
    have s := Same.new (o := .lst [.ref tb, .non, .ref y1, .str "log", .int 5, .ref y2, .ref y3, .ref lc]) hld
    refine ⟨lr, ld, _, _, rfl, rfl, s _ _ gr, upd_same, by show 12 + 8 ≤ sizeLine; decide, fun lz hlz => pick_new (P.keep s) hlz (by simp) (by show 20 ≤ 1000; decide) (by omega) fun v9 H9 hx d9 => ?_⟩
    obtain ⟨dd, hdd, hv9⟩ := ((R.app (.cons e100 (.cons .non (.cons e1 (.cons (.str _) (.cons (.int _) (.cons e2 (.cons e3 (.cons e200 .nil))))))))).keep (s.off.trans (d9.off pS))).mem hx
    refine q v9 dd H9 hv9 ?_ ⟨d9.pen.mono (by omega), (b.trans (But.of s)).trans d9.but⟩
    obtain ⟨zo, zw, zd⟩ := sz_lst hz
    rcases List.mem_append.mp hdd with h | h
    · rw [List.eq_of_mem_replicate h]
      exact zf.mono (by omega) (by omega)
    · simp only [List.mem_cons, List.not_mem_nil, or_false] at h
      rcases h with rfl | rfl | rfl | rfl | rfl | rfl | rfl | rfl
      · exact (sz_tup' (k := 2) zo zw zd).mono (by omega) (by omega)
      · exact ⟨by decide, by decide, by decide⟩
      · exact ⟨by decide, by decide, by decide⟩
      · exact ⟨by decide, by decide, by decide⟩
      · exact (sz_int (by decide)).mono (by decide) (by decide)
      · exact sz_tup' (k := 4) (by rw [okVAll, okVAll, zf.ok]; rfl) (by rw [wVAll, wVAll]; have := zf.w; omega) (by rw [PyData.depthAll, PyData.depthAll]; have := zf.dp; omega)
      · exact sz_lst' (k := 4) (by rw [okVAll, okVAll, hz.ok]; rfl) (by rw [wVAll, wVAll]; have := hz.w; omega) (by rw [PyData.depthAll, PyData.depthAll]; have := hz.dp; omega)
      · exact sz_lst' (k := 4) (okVAll_app' zo (by rw [okVAll, okVAll, hz.ok]; rfl)) (by rw [wVAll_app, wVAll, wVAll]; have := hz.w; omega) (depthAll_app (Nat.le_trans zd (by omega)) (by rw [PyData.depthAll, PyData.depthAll]; have := hz.dp; omega))

theorem ok_law (T : Txt K mg) : TopOk P w K mg 10 T.f_law T.d_law ["script"] (spLaw K) := by
  refine top_of T.F_law sc_law (fun vs H Q E h => ?_) (fun base cdv A outer s H vs Q E hA hr h => ?_)
  · obtain ⟨a, ns, rfl, _⟩ := h
    rfl
  · obtain ⟨a, ns, rfl, hS, hl, q⟩ := h
    have hgd : (A.deeper (envOfC "law" (defScope s_law) s.heap.objs.size T.f_law cdv)).guards = some [] := hA
    have hud : (A.deeper (envOfC "law" (defScope s_law) s.heap.objs.size T.f_law cdv)).units + 64 < cLine := by have := hr.un; omega
    refine ⟨_, (pss_cons (ps_set (i := 1) sc_law.nd rfl (Or.inr rfl) (pe_call (ok_law_open T) (hr.mono (by decide)) rfl T.g_law_open T.F_law_open.kp T.b_law_open .nil pass0 (pa_cons (pv 0) pa_nil)))
      (pss_cons (ps_for PassesOwn.never rfl (pi_range1 rfl T.z_range (pa_cons pe_int pa_nil)) (pg_name (i := 2) sc_law.nd rfl (Or.inl rfl))
        (pss_cons (ps_set (i := 3) sc_law.nd rfl (Or.inl rfl) (pe_call (ok_law_u_setting T) (hr.mono (by decide)) rfl T.g_law_u_setting T.F_law_u_setting.kp T.b_law_u_setting .nil pass0 (pa_cons (pv 1) pa_nil)))
      (pss_cons (ps_set (i := 4) sc_law.nd rfl (Or.inr rfl) (pe_call (ok_law_u_log T) (hr.mono (by decide)) rfl T.g_law_u_log T.F_law_u_log.kp T.b_law_u_log .nil pass0 (pa_cons (pe_call (ok_law_u_events T) (hr.mono (by decide)) rfl T.g_law_u_events T.F_law_u_events.kp T.b_law_u_events .nil pass0 (pa_cons (pv 1) (pa_cons (pv 3) (pa_cons pe_int pa_nil)))) pa_nil)))
      (pss_cons (ps_setLc (i := 5) (own := [("k", 6)]) (g := (gName 6)) (tt := tYes)  rfl sc_law.nd rfl rfl (sw_true rfl rfl rfl (by decide +kernel)) (pi_range1 rfl T.z_range (pa_cons (pe_op op_add pe_int (pe_call (ok_law_take T) (hr.mono (by decide)) rfl T.g_law_take T.F_law_take.kp T.b_law_take .nil pass0 (pa_cons (pv 1) (pa_cons pe_int pa_nil)))) pa_nil)) (blkOk_by (own := [("k", 6)]) (N := ["script", "pen", "turn", "fits", "book", "wide", "k", "given", "again", "due", "one", "seen", "found"]) (sc := defScope s_law) (by decide +kernel)) (fun _ _ _ _ _ => (pg_name (i := 6) sc_law.nd rfl (Or.inl rfl))) (fun _ _ _ _ _ => pts_nil) (fun _ _ _ _ _ => (pe_tup (pa_cons pe_str (pa_cons (pe_op op_mod (pv 6) pe_int) (pa_cons (pe_lst (pa_cons (pv 6) pa_nil)) pa_nil))))))
      (pss_one (ps_for PassesOwn.never rfl (pi_list (pe_op op_cat (pe_lst (pa_cons (pv 4) (pa_cons (pv 5) (pa_cons (pe_lst pa_nil) pa_nil)))) (pe_lc (own := [("again", 8)]) (g := (gName 8)) (tt := tYes)  rfl sc_law.nd (pi_range1 rfl T.z_range (pa_cons pe_int pa_nil)) (blkOk_by (own := [("again", 8)]) (N := ["script", "pen", "turn", "fits", "book", "wide", "k", "given", "again", "due", "one", "seen", "found"]) (sc := defScope s_law) (by decide +kernel)) (fun _ _ _ _ _ => (pg_name (i := 8) sc_law.nd rfl (Or.inl rfl))) (fun _ _ _ _ _ => pts_nil) (fun _ _ _ _ _ => (pe_call (ok_law_u_bent T) (hr.mono (by decide)) rfl T.g_law_u_bent T.F_law_u_bent.kp T.b_law_u_bent .nil pass0 (pa_cons (pv 1) (pa_cons (pv 4) pa_nil))))))) (pg_name (i := 7) sc_law.nd rfl (Or.inl rfl))
        (Evl.pss_cut (ps_set (i := 9) sc_law.nd rfl (Or.inl rfl) (pe_and (pe_callB call_isi rfl T.z_isinstance boot_isinstance (pa_cons (pv 7) (pa_cons (pe_bltn (v := .ty "list") rfl T.z_list boot_list rfl) pa_nil))) (pe_one (pe_cmpR op_le (pe_callB call_len rfl T.z_len boot_len (pa_cons (pv 7) pa_nil)) pe_int (nomark _)))))
      (Evl.pss_cut (ps_set (i := 9) sc_law.nd rfl (Or.inl rfl) (pe_and (pv 9) (pe_one (pe_cmpR op_notIn_seq pe_bl (pe_lc (own := [("one", 10)]) (g := (gName 10)) (tt := tYes)  rfl sc_law.nd (pi_list (pv 7)) (blkOk_by (own := [("one", 10)]) (N := ["script", "pen", "turn", "fits", "book", "wide", "k", "given", "again", "due", "one", "seen", "found"]) (sc := defScope s_law) (by decide +kernel)) (fun _ _ _ _ _ => (pg_name (i := 10) sc_law.nd rfl (Or.inl rfl))) (fun _ _ _ _ _ => pts_nil) (fun _ _ _ _ _ => (pe_call (ok_law_u_is_event T) (hr.mono (by decide)) rfl T.g_law_u_is_event T.F_law_u_is_event.kp T.b_law_u_is_event .nil pass0 (pa_cons (pv 10) pa_nil)))) rfl))))
      (pss_cons (ps_par (i := 11) (j := 12) rfl sc_law.nd rfl rfl (by decide) rfl rfl (pa_cons (pe_callB (call_reprV hgd hud) rfl T.z_repr boot_repr (pa_cons (pv 7) pa_nil)) (pa_cons (pe_call (ok_is_log T) (hr.mono (by decide)) rfl T.g_is_log T.F_is_log.kp T.b_is_log .nil pass0 (pa_cons (pv 7) pa_nil)) pa_nil)) (by rfl))
      (pss_one (ps_if (PW.pt (pw_or (pt_not (pt_val (pe_callB call_isi rfl T.z_isinstance boot_isinstance (pa_cons (pv 12) (pa_cons (pe_bltn (v := .ty "bool") rfl T.z_bool boot_bool rfl) pa_nil))))) (pw_or (pt_cmpR op_ne (pv 12) (pv 9) (nomark _)) (pw_or (pt_cmpR op_ne (pe_callB (call_reprV hgd hud) rfl T.z_repr boot_repr (pa_cons (pv 7) pa_nil)) (pv 11) (nomark _)) (pw_or1 (pt_cmpR op_ne (pe_callK0 (ok_is_log T) (hr.mono (by decide)) rfl T.g_is_log T.F_is_log.kp T.kw_is_log pass0 (pk_cons (pv 7) pk_nil)) (pv 9) (nomark _))))))) (pss_one (ps_ret pe_bl)) pss_nil)))))))))))
      (pss_one (ps_ret pe_bl)))), ?_⟩
    refine ⟨_, rfl, a, ns, rfl, hS, hl, fun p c H1 hp s1 P1 => ?_⟩
    have pS : p ∈ [p] := List.mem_singleton.mpr rfl
    refine ⟨_, rfl, by decide, by decide, ?_⟩
    refine for_range (lo := 0) (n := 3) (fun i σ H' => ∃ v2 v3 v4 v5 v6 v7 v8 v9 v10 v11 v12 : Option V, σ = [some (.ref a), some (.ref p), v2, v3, v4, v5, v6, v7, v8, v9, v10, v11, v12] ∧ Pen H' p c (1000 * i)) ⟨_, _, _, _, _, _, _, _, _, _, _, rfl, P1⟩ ?_ ?_
    · rintro i σ H2 hi ⟨v2, v3, v4, v5, v6, v7, v8, v9, v10, v11, v12, rfl, P2⟩
      refine ⟨_, rfl, p, c, _, rfl, P2, by omega, fun sa st sx F r w H3 g1 g2 g3 okS hr40 hF3 d3 => ?_⟩
      refine ⟨_, rfl, _, rfl, p, c, _, 14, .ref sa, F, r, w, rfl, d3.pen, by omega, by omega, ⟨sa, st, sx, rfl, g1, g2, g3⟩, okS, fun e0 xs0 es H4 hn nep ge hE okE hlE d4 => ?_⟩
      refine ⟨e0, xs0, es, [p], rfl, Hid.one d4.pen, ge, hE, okE, by omega, fun Bk ys H5 hB s5 gB hL => ?_⟩
      have P5 := (d4.keep s5).pen
      have hBp : Bk ≠ p := fun z => d4.pen.some_ (z ▸ hB)
      have A5 := LEvs.dv hL
      have zB := book_sz okE hlE
      have lB : (es.map Evt.dat).length ≤ 14 := by rw [List.length_map]; exact hlE
      generalize es.map Evt.dat = ds at A5 zB lB
      clear hL hE ge hB s5 d4 g1 g2 g3 okE hlE d3
      -- wide
      refine ⟨_, rfl, take_n 3 P5 (by decide) (by decide) (by omega) fun k H6 hk d6 => ⟨_, _, rfl, rfl, ?_⟩⟩
      have ek : (39 : Int) + (k : Int) = ((39 + k : Nat) : Int) := by omega
      dsimp only
      rw [ek]
      have gB6 := d6.but _ _ hBp gB
      have A6 := A5.keep (d6.off (S := [p]) pS)
      have P6 := d6.pen
      refine ⟨_, rfl, by omega, by omega, fun C hC => ?_⟩
      rw [Int.toNat_natCast]
      have hCp : C ≠ p := fun z => P6.some_ (z ▸ hC)
      refine lc_gen walk_range (fun j zs H' => (∀ b o, b ≠ C → H6 b = some o → H' b = some o) ∧ Hid [C, p] H' ∧ ∃ es, DvAll K (OffS [C, p] H') zs es ∧ ∀ d ∈ es, Sz 3000 2 d) (by omega) ⟨fun b o nb e => by rw [upd_ne nb]; exact e, ((Hid.one P6).keep (Same.new hC)).cons (by rw [upd_same]; exact fun z => nomatch z), [], .nil, fun _ h => nomatch h⟩ (fun _ _ _ _ => True.intro) ?_ ?_
      · rintro j zs x H' H'' Q' Z hj hlz gC ⟨hk6, hid, es, hes, hz⟩ ⟨rfl, rfl⟩ q'
        refine ⟨rfl, yesI ?_⟩
        refine ⟨_, rfl, _, _, rfl, rfl, by show (0 : Int) < 21; decide, _, rfl, by show 1 ≤ sizeLine; decide, fun l1 hl1 => ?_⟩
        obtain ⟨t1, hid1, e1⟩ := layL (K := K) (ys := [.int (0 + (j : Int))]) (es := [.int (0 + (j : Int))]) hl1 hid (.cons (.int _) .nil)
        refine ⟨by show 3 ≤ sizeLine; decide, fun l2 hl2 => ?_⟩
        obtain ⟨t2, hid2, e2⟩ := layT (K := K) (ys := [.str "block", .int ((0 + (j : Int)) % 21), .ref l1]) (es := [.str "block", .int ((0 + (j : Int)) % 21), .list [.int (0 + (j : Int))]]) hl2 hid1 (.cons (.str _) (.cons (.int _) (.cons e1 .nil)))
        have t12 := t1.trans t2
        refine q' _ _ (t12 _ _ gC) ⟨fun b o nb e => by rw [upd_ne nb]; exact t12 _ _ (hk6 b o nb e), hid2.upd, es ++ [.tuple [.str "block", .int ((0 + (j : Int)) % 21), .list [.int (0 + (j : Int))]]], ((hes.keep t12.off).app (.cons e2 .nil)).keep (off_hid (by simp)), fun d hd => ?_⟩
        rcases List.mem_append.mp hd with h | h
        · exact hz d h
        · rw [List.mem_singleton.mp h]
          have zi : ∀ x : Int, 0 ≤ x → x ≤ 9999 → Sz 1010 0 (.int x) := fun x h0 h1 => sz_int (Nat.lt_of_le_of_lt (show x.natAbs ≤ 9999 by omega) (by decide +kernel))
          have z1 := zi (0 + (j : Int)) (by omega) (by omega)
          have z2 := zi ((0 + (j : Int)) % 21) (Int.emod_nonneg _ (by omega)) (by have := Int.emod_lt_of_pos (0 + (j : Int)) (show (0 : Int) < 21 by omega); omega)
          have z3 : Sz 1020 1 (.list [.int (0 + (j : Int))]) := sz_lst' (k := 0) (by rw [okVAll, okVAll, z1.ok]; rfl) (by rw [wVAll, wVAll]; have := z1.w; omega) (by rw [PyData.depthAll, PyData.depthAll]; have := z1.dp; omega)
          exact sz_tup' (k := 1) (by rw [okVAll, okVAll, okVAll, okVAll, sz_bkS.ok, z2.ok, z3.ok]; rfl) (by rw [wVAll, wVAll, wVAll, wVAll]; have := sz_bkS.w; have := z2.w; have := z3.w; omega) (by rw [PyData.depthAll, PyData.depthAll, PyData.depthAll, PyData.depthAll]; have := sz_bkS.dp; have := z2.dp; have := z3.dp; omega)
      rintro zs H7 hlz gC ⟨hk6, hid7, wes, hwes, hwz⟩
      have s67 : Same H6 H7 := fun b o e => hk6 b o (fun z => by rw [z, hC] at e; cases e) e
      have hlw := hwes.len
      have cW : Dv K (OffS [p] H7) (.ref C) (.list wes) := .lst (SqL.of (by rw [off_ne (by simp [hCp])]; exact gC)) (hwes.keep off_less)
      have zW : Sz 200000 3 (.list wes) := by
        have h := sz_many hwz
        exact sz_lst' h.1 (by have := h.2.1; omega) h.2.2
      have gB7 := s67 _ _ gB6
      have A7 := A6.keep s67.off
      have P7 := P6.keep s67
      clear hk6 hwes hwz hid7 gC A6 gB6 s67 A5 gB
      -- what is given
      refine ⟨_, rfl, _, rfl, by show 0 ≤ sizeLine; decide, fun l0 hl0 => ?_⟩
      obtain ⟨s8, hid8, e8⟩ := layL (K := K) (ys := []) (es := []) hl0 (Hid.one P7) .nil
      have cB : Dv K (OffS [p] H7) (.ref Bk) (.list ds) := .lst (SqL.of (by rw [off_ne (by simp [hBp])]; exact gB7)) A7
      refine ⟨by show 3 ≤ sizeLine; decide, fun l1 hl1 => ?_⟩
      obtain ⟨s9, hid9, gl1, A9⟩ := layM (K := K) (ys := [.ref Bk, .ref C, .ref l0]) (es := [.list ds, .list wes, .list []]) hl1 hid8 (.cons (cB.keep s8.off) (.cons (cW.keep s8.off) (.cons e8 .nil)))
      have s79 := s8.trans s9
      have gB9 := s79 _ _ gB7
      have B9 := A7.keep s79.off
      have P9 := P7.keep s79
      have hl1p : l1 ≠ p := fun z => (P7.keep s8).some_ (z ▸ hl1)
      generalize upd (upd H7 l0 (.lst [])) l1 (.lst [.ref Bk, .ref C, .ref l0]) = H9 at hid9 gl1 A9 gB9 B9 P9 ⊢
      clear s8 s9 s79 e8 cB cW hid8 A7 gB7
      have z9 : ∀ d ∈ [PyData.list ds, .list wes, .list []], Sz 9000000 5 d := by
        intro d hd
        simp only [List.mem_cons, List.not_mem_nil, or_false] at hd
        rcases hd with rfl | rfl | rfl
        · exact zB.mono (by omega) (by omega)
        · exact zW.mono (by omega) (by omega)
        · exact ⟨by decide, by decide, by decide⟩
      have l3 : [V.ref Bk, .ref C, .ref l0].length = 3 := rfl
      generalize [V.ref Bk, .ref C, .ref l0] = xs3 at A9 gl1 l3 ⊢
      generalize [PyData.list ds, .list wes, .list []] = ds3 at A9 z9
      refine ⟨_, rfl, by decide, by decide, fun D hD => ?_⟩
      refine lc_gen walk_range (LcI K p c D [p] H9 (1000 * i + 800) 10 9000000 5 fun _ => True) (by omega) (LcI.start (P9.mono (by omega)) hD) (fun _ _ _ _ => True.intro) ?_ ?_
      · rintro j zs z H' H'' Q' Z hj hlz gD I ⟨rfl, rfl⟩ q'
        refine ⟨rfl, yesI ?_⟩
        have hBD : Bk ≠ D := fun z => by rw [z, hD] at gB9; cases gB9
        have gBk := I.drew.but _ _ hBp gB9
        have Bk' : DvAll K (OffS [D, p] H'') ys ds := B9.keep ((off_more hD).trans (I.drew.off (List.mem_cons_of_mem _ pS)))
        refine ⟨_, rfl, _, rfl, p, c, Bk, _, ys, ds, [D, p], rfl, I.drew.pen, by omega, List.mem_cons_of_mem _ pS, by simp [hBp, hBD], (Hid.one I.drew.pen).cons (by rw [gD]; exact fun z => nomatch z), gBk, Bk', zB, lB, fun v d H8 hv hz h8 => ?_⟩
        obtain ⟨e1, e2⟩ := I.step (P9.mono (by omega)) pS hD gD hv hz True.intro h8
        exact q' v H8 e1 e2
      rintro zs H10 hlz gD I
      obtain ⟨D10, es, hes, hE⟩ := I
      have o910 := D10.off (S := [p]) pS
      have hes10 := hes.keep (off_less (S := [p]) (q := D) (H := H10))
      have lz : zs.length = 6 := hlz
      refine ⟨l1, D, _, _, rfl, rfl, D10.but _ _ hl1p gl1, gD, by rw [lz, l3]; show 9 ≤ sizeLine; decide, fun N hN => ?_⟩
      have sN := Same.new (o := .lst (xs3 ++ zs)) hN
      have A11 := ((A9.keep o910).app hes10).keep sN.off
      have gN : upd H10 N (.lst (xs3 ++ zs)) N = some (.lst (xs3 ++ zs)) := upd_same
      have P11 := D10.pen.keep sN
      have zR : ∀ d ∈ ds3 ++ es, Sz 9000000 5 d := fun d hd => by
        rcases List.mem_append.mp hd with h | h
        · exact z9 d h
        · exact (hE d h).1
      generalize upd H10 N (.lst (xs3 ++ zs)) = H11 at A11 gN P11 ⊢
      generalize xs3 ++ zs = all at A11 gN ⊢
      generalize ds3 ++ es = dall at A11 zR
      clear hes hE hes10 A9 gl1 B9 gB9 zB lB
      refine ⟨N, rfl, ⟨_, SqL.of gN⟩, ?_⟩
      refine for_list (K := K) (a := N) (xs := all) (fun j σ H' => ∃ v7 v8 v9 v10 v11 v12 : Option V, σ = [some (.ref a), some (.ref p), some (.int (0 + (i : Int))), some (.ref sa), some (.ref Bk), some (.ref C), v6, v7, v8, v9, v10, v11, v12] ∧ Same H11 H') ⟨_, _, _, _, _, _, rfl, Same.refl _⟩ (fun j σ H' _ ⟨_, _, _, _, _, _, _, s⟩ => s.seq (SqL.of gN)) ?_ ?_
      · rintro j v σ H12 hj ⟨v7, v8, v9, v10, v11, v12, rfl, s12⟩
        obtain ⟨d, hd, hv0⟩ := (A11.keep s12.off).at hj
        have zd := zR d (List.mem_of_getElem? hd)
        have hv := hv0.on
        have hw : Lim d := ⟨zd.ok, by have := zd.w; omega⟩
        have hw7 : wV d ≤ 10000000 := hw.2
        have hdp : d.depth ≤ 40 := by have := zd.dp; omega
        clear hd hv0
        -- due
        refine ⟨fun σ' H' => σ' = [some (.ref a), some (.ref p), some (.int (0 + (i : Int))), some (.ref sa), some (.ref Bk), some (.ref C), v6, some v, v8, some (.bl (lstLe d)), v10, v11, v12] ∧ H12 = H', ?_, ?_⟩
        · have k := hv.kind
          refine ⟨_, rfl, _, _, _, _, _, rfl, .ty _, k.ty, k.kit, _, rfl, ifb (fun e => ?_) (fun e => ?_)⟩
          · obtain ⟨la, xs, ds, rfl, rfl, hs, ha⟩ := hv.asL e
            refine ⟨_, rfl, _, _, rfl, .inl ⟨_, hs, rfl⟩, _, _, rfl, rfl, ?_⟩
            have ec : decide ((xs.length : Int) ≤ 40) = lstLe (.list ds) := decide_eq_decide.mpr (by rw [ha.len]; omega)
            refine ⟨?_, rfl⟩
            rw [← ec]; rfl
          · refine ⟨?_, rfl⟩
            rw [lstLe_no e]; rfl
        rintro σ' H' ⟨rfl, rfl⟩
        refine ⟨fun σ' H' => σ' = [some (.ref a), some (.ref p), some (.int (0 + (i : Int))), some (.ref sa), some (.ref Bk), some (.ref C), v6, some v, v8, some (.bl (dLog d)), v10, v11, v12] ∧ Same H12 H', ?_, ?_⟩
        · refine ⟨_, rfl, _, rfl, ifb (fun e => ?_) (fun e => ?_)⟩
          · obtain ⟨ds, rfl, h40⟩ := lstLe_of e
            obtain ⟨la, xs, rfl, hs, ha⟩ := hv.sLst
            have hlen := ha.len
            refine ⟨_, rfl, la, rfl, ⟨xs, hs⟩, fun D hD => ?_⟩
            refine lc_map (walk_list (xs := xs)) (fun i => V.bl (dEv (ds.getD i .none))) (by omega) hD (fun _ s1 => s1.seq hs) ?_ ?_
            · rintro m y H' H'' Q' Z hm s1 ⟨rfl, hy⟩ q'
              refine ⟨rfl, yesI ?_⟩
              obtain ⟨d, hd, hdv⟩ := ha.at hy
              refine ⟨_, rfl, y, d, rfl, hdv.keep s1, w_lst (List.mem_of_getElem? hd) hw, fun H4 s4 => ?_⟩
              have := q' H4 s4
              rw [getD_of .none hd] at this
              exact this
            · intro H' s1 hD'
              rw [tests_of dEv ha] at hD'
              refine ⟨D, _, rfl, .inl (SqL.of hD'), rfl, flatB _, ?_, s1⟩
              have ed : dLog (.list ds) = !inV (.bl false) ((ds.map dEv).map V.bl) := by
                rw [inB (b := false), Bool.not_not, all_id]
                show (decide (ds.length ≤ 40) && ds.all dEv) = _
                rw [decide_eq_true h40, Bool.true_and]
              rw [ed]; rfl
          · refine ⟨?_, Same.refl _⟩
            rw [dLog_le e]; rfl
        rintro σ' H13 ⟨rfl, s13⟩
        have hv13 := hv.keep s13
        refine ⟨_, rfl, v, d, rfl, hv13, zd.ok, hdp, hw7, ?_⟩
        refine ⟨_, rfl, v, d, rfl, hv13, hw, fun H14 s14 => ⟨_, _, rfl, ?_⟩⟩
        have hv14 := hv13.keep s14
        have kb : Kind K H14 (.bl (dLog d)) "bool" := .bl _
        refine ⟨_, rfl, _, _, _, _, _, rfl, .ty _, kb.ty, kb.kit, _, rfl, ifF rfl ?_⟩
        refine ⟨_, rfl, _, rfl, rfl, _, rfl, ifF (by rw [decide_eq_true rfl]; rfl) ?_⟩
        refine ⟨_, rfl, v, d, rfl, hv14, zd.ok, hdp, hw7, ⟨_, rfl, rfl, _, rfl, ifF (by rw [decide_eq_true rfl]; rfl) ?_⟩⟩
        refine ⟨_, rfl, v, d, rfl, hv14, hw, fun H15 s15 => ⟨_, rfl, rfl, _, rfl, ifF (by rw [decide_eq_true rfl]; rfl) ?_⟩⟩
        exact ⟨_, _, _, _, _, _, rfl, ((s12.trans s13).trans s14).trans s15⟩
      · rintro σ H12 ⟨v7, v8, v9, v10, v11, v12, rfl, s12⟩
        exact ⟨_, _, _, _, _, _, _, _, _, _, _, rfl, (P11.keep s12).mono (by omega)⟩
    · rintro σ H' ⟨v2, v3, v4, v5, v6, v7, v8, v9, v10, v11, v12, rfl, P2⟩
      exact q H'

end
theorem all_mk {l : PySem.W.OpenLaw} {w : World} {K : PySem.W.Frag} {h : Heap} {mg : Str → Option Value} {fa : Addr} (X : K.In h) (G : h.Ns mainGlobals mg) (hfa : mg "law" = some (.ref fa))
    {C0 : Addr} (cC0 : PySem.W.nsIn K mainGlobals "FieldError" = some (some (.ref C0)))
    (rd0 : PySem.W.readsIn K C0 (.type "type") = true) (ga0 : PySem.W.specialIn K (.ref C0) "__getattribute__" = some (some (.builtin "type.__getattribute__"))) (in0 : PySem.W.findCls K (.ref C0) (.type "type") "__init__" = some (.val (.builtin "ValueError.__init__")))
    (rb0 : PySem.W.subIn K (.ref C0) (.type "BaseException") = some true) (rt0 : PySem.W.typeIn K (.ref C0) = some (.type "type")) (rc0 : PySem.W.hasDictIn K C0 = true)
    {C1 : Addr} (cC1 : PySem.W.nsIn K mainGlobals "NoSetting" = some (some (.ref C1)))
    (kC1 : PySem.W.keepIn K (.ref C1) = true) (eC1 : PySem.W.subIn K (.ref C1) (.type "BaseException") = some true) (tC1 : PySem.W.typeIn K (.ref C1) = some (.type "type")) (uC1 : PySem.W.subIn K (.ref C1) (.ref C0) = some true)
    (xC1 : PySem.W.excIn K C1 [.type "ValueError", .type "Exception", .type "BaseException", .type "object"] "ValueError.__new__" = true)
    {C2 : Addr} (cC2 : PySem.W.nsIn K mainGlobals "NoValue" = some (some (.ref C2)))
    (kC2 : PySem.W.keepIn K (.ref C2) = true) (eC2 : PySem.W.subIn K (.ref C2) (.type "BaseException") = some true) (tC2 : PySem.W.typeIn K (.ref C2) = some (.type "type")) (uC2 : PySem.W.subIn K (.ref C2) (.ref C0) = some true)
    (xC2 : PySem.W.excIn K C2 [.type "ValueError", .type "Exception", .type "BaseException", .type "object"] "ValueError.__new__" = true)
    {C3 : Addr} (cC3 : PySem.W.nsIn K mainGlobals "BadTable" = some (some (.ref C3)))
    (kC3 : PySem.W.keepIn K (.ref C3) = true) (eC3 : PySem.W.subIn K (.ref C3) (.type "BaseException") = some true) (tC3 : PySem.W.typeIn K (.ref C3) = some (.type "type")) (uC3 : PySem.W.subIn K (.ref C3) (.ref C0) = some true)
    {nm3 q3 : Str} {N3 : Addr} {bs3 bm3 : List Value} {sn3 : List Str} {sub3 : List Value} {ab3 : Bool} {col3 : Option Bool} {dd3 : Option Addr} {m03 m13 m23 m33 m53 : Option Value}
    (xL3 : K.lookup C3 = some (excClassObj nm3 q3 C3 N3 bs3 bm3 true sn3 sub3 ab3 col3 dd3 m03 m13 m23 m33 m53 "ValueError.__new__")) (rv3 : PySem.HandSPX.refsVE bm3 = true)
    (sa3 : PySem.W.findIn K (.ref C3) "__setattr__" = some (some (.builtin "object.__setattr__"))) (nb3 : PySem.W.findIn K (.ref C3) "number" = some none)
    (sd3 : PySem.W.hasDictIn K C3 = true) (ss3 : PySem.W.subIn K (.ref C3) (.ref C3) = some true)
    {C4 : Addr} (cC4 : PySem.W.nsIn K mainGlobals "Table" = some (some (.ref C4)))
    (pg4 : PySem.W.plainGet K C4 Str.empty = true) (hd4 : PySem.W.hasDictIn K C4 = true) (po4 : PySem.W.plainOver K C4 = true) (sa4 : PySem.W.findIn K (.ref C4) "__setattr__" = some (some (.builtin "object.__setattr__"))) (mk4 : PySem.W.makesIn K C4 = true) (kC4 : PySem.W.keepIn K (.ref C4) = true)
    (n4_0 : PySem.W.findIn K (.ref C4) "setting" = some none)
    (n4_1 : PySem.W.findIn K (.ref C4) "bound" = some none)
    (n4_2 : PySem.W.findIn K (.ref C4) "made" = some none)
    (n4_3 : PySem.W.findIn K (.ref C4) "kept" = some none)
    {f0 : Addr} {od0 an0 : Option Addr} {sl0 : Array (Option Value)} {oc0 kV0 dc0 pm0 cd0 ct0 : Value}
    (a0 : PySem.W.nsIn K mainGlobals "_wall" = some (some (.ref f0))) (l0 : K.lookup f0 = some ⟨oc0, od0, .func (PySem.W.fnOf "_wall" "_wall" (defArgs s_wall) (defBody s_wall) (defScope s_wall) .none kV0 dc0 pm0 an0 cd0 ct0), sl0⟩) (c0 : PySem.W.codeIn K cd0 "_wall" = true) (k0 : PySem.W.keepIn K (.ref f0) = true)
    {f1 : Addr} {od1 an1 : Option Addr} {sl1 : Array (Option Value)} {oc1 kV1 dc1 pm1 cd1 ct1 : Value}
    (a1 : PySem.W.findIn K (.ref C3) "__init__" = some (some (.ref f1))) (l1 : K.lookup f1 = some ⟨oc1, od1, .func (PySem.W.fnOf "__init__" "BadTable.__init__" (defArgs s_BadTable_init) (defBody s_BadTable_init) (defScope s_BadTable_init) .none kV1 dc1 pm1 an1 cd1 ct1), sl1⟩) (c1 : PySem.W.codeIn K cd1 "BadTable.__init__" = true) (k1 : PySem.W.keepIn K (.ref f1) = true)
    (i1 : PySem.W.isFn K (.ref f1) = true) (t1 : PySem.W.typeIn K (.ref f1) = some (.type "function"))
    {f2 : Addr} {od2 an2 : Option Addr} {sl2 : Array (Option Value)} {oc2 kV2 dc2 pm2 cd2 ct2 : Value}
    (a2 : PySem.W.nsIn K mainGlobals "is_between" = some (some (.ref f2))) (l2 : K.lookup f2 = some ⟨oc2, od2, .func (PySem.W.fnOf "is_between" "is_between" (defArgs s_is_between) (defBody s_is_between) (defScope s_is_between) .none kV2 dc2 pm2 an2 cd2 ct2), sl2⟩) (c2 : PySem.W.codeIn K cd2 "is_between" = true) (k2 : PySem.W.keepIn K (.ref f2) = true)
    {f3 : Addr} {od3 an3 : Option Addr} {sl3 : Array (Option Value)} {oc3 kV3 dc3 pm3 cd3 ct3 : Value}
    (a3 : PySem.W.nsIn K mainGlobals "is_number" = some (some (.ref f3))) (l3 : K.lookup f3 = some ⟨oc3, od3, .func (PySem.W.fnOf "is_number" "is_number" (defArgs s_is_number) (defBody s_is_number) (defScope s_is_number) .none kV3 dc3 pm3 an3 cd3 ct3), sl3⟩) (c3 : PySem.W.codeIn K cd3 "is_number" = true) (k3 : PySem.W.keepIn K (.ref f3) = true)
    {f4 : Addr} {od4 an4 : Option Addr} {sl4 : Array (Option Value)} {oc4 kV4 dc4 pm4 cd4 ct4 : Value}
    (a4 : PySem.W.nsIn K mainGlobals "is_stream" = some (some (.ref f4))) (l4 : K.lookup f4 = some ⟨oc4, od4, .func (PySem.W.fnOf "is_stream" "is_stream" (defArgs s_is_stream) (defBody s_is_stream) (defScope s_is_stream) .none kV4 dc4 pm4 an4 cd4 ct4), sl4⟩) (c4 : PySem.W.codeIn K cd4 "is_stream" = true) (k4 : PySem.W.keepIn K (.ref f4) = true)
    {f5 : Addr} {od5 an5 : Option Addr} {sl5 : Array (Option Value)} {oc5 kV5 dc5 pm5 cd5 ct5 : Value}
    (a5 : PySem.W.nsIn K mainGlobals "is_text" = some (some (.ref f5))) (l5 : K.lookup f5 = some ⟨oc5, od5, .func (PySem.W.fnOf "is_text" "is_text" (defArgs s_is_text) (defBody s_is_text) (defScope s_is_text) .none kV5 dc5 pm5 an5 cd5 ct5), sl5⟩) (c5 : PySem.W.codeIn K cd5 "is_text" = true) (k5 : PySem.W.keepIn K (.ref f5) = true)
    {f6 : Addr} {od6 an6 : Option Addr} {sl6 : Array (Option Value)} {oc6 kV6 dc6 pm6 cd6 ct6 : Value}
    (a6 : PySem.W.nsIn K mainGlobals "is_name" = some (some (.ref f6))) (l6 : K.lookup f6 = some ⟨oc6, od6, .func (PySem.W.fnOf "is_name" "is_name" (defArgs s_is_name) (defBody s_is_name) (defScope s_is_name) .none kV6 dc6 pm6 an6 cd6 ct6), sl6⟩) (c6 : PySem.W.codeIn K cd6 "is_name" = true) (k6 : PySem.W.keepIn K (.ref f6) = true)
    {f7 : Addr} {od7 an7 : Option Addr} {sl7 : Array (Option Value)} {oc7 kV7 dc7 pm7 cd7 ct7 : Value}
    (a7 : PySem.W.nsIn K mainGlobals "is_value" = some (some (.ref f7))) (l7 : K.lookup f7 = some ⟨oc7, od7, .func (PySem.W.fnOf "is_value" "is_value" (defArgs s_is_value) (defBody s_is_value) (defScope s_is_value) .none kV7 dc7 pm7 an7 cd7 ct7), sl7⟩) (c7 : PySem.W.codeIn K cd7 "is_value" = true) (k7 : PySem.W.keepIn K (.ref f7) = true)
    {f8 : Addr} {od8 an8 : Option Addr} {sl8 : Array (Option Value)} {oc8 kV8 dc8 pm8 cd8 ct8 : Value}
    (a8 : PySem.W.nsIn K mainGlobals "is_field" = some (some (.ref f8))) (l8 : K.lookup f8 = some ⟨oc8, od8, .func (PySem.W.fnOf "is_field" "is_field" (defArgs s_is_field) (defBody s_is_field) (defScope s_is_field) .none kV8 dc8 pm8 an8 cd8 ct8), sl8⟩) (c8 : PySem.W.codeIn K cd8 "is_field" = true) (k8 : PySem.W.keepIn K (.ref f8) = true)
    {f9 : Addr} {od9 an9 : Option Addr} {sl9 : Array (Option Value)} {oc9 kV9 dc9 pm9 cd9 ct9 : Value}
    (a9 : PySem.W.nsIn K mainGlobals "is_tuple_of_fields" = some (some (.ref f9))) (l9 : K.lookup f9 = some ⟨oc9, od9, .func (PySem.W.fnOf "is_tuple_of_fields" "is_tuple_of_fields" (defArgs s_is_tuple_of_fields) (defBody s_is_tuple_of_fields) (defScope s_is_tuple_of_fields) .none kV9 dc9 pm9 an9 cd9 ct9), sl9⟩) (c9 : PySem.W.codeIn K cd9 "is_tuple_of_fields" = true) (k9 : PySem.W.keepIn K (.ref f9) = true)
    {f10 : Addr} {od10 an10 : Option Addr} {sl10 : Array (Option Value)} {oc10 kV10 dc10 pm10 cd10 ct10 : Value}
    (a10 : PySem.W.nsIn K mainGlobals "is_setting" = some (some (.ref f10))) (l10 : K.lookup f10 = some ⟨oc10, od10, .func (PySem.W.fnOf "is_setting" "is_setting" (defArgs s_is_setting) (defBody s_is_setting) (defScope s_is_setting) .none kV10 dc10 pm10 an10 cd10 ct10), sl10⟩) (c10 : PySem.W.codeIn K cd10 "is_setting" = true) (k10 : PySem.W.keepIn K (.ref f10) = true)
    {f11 : Addr} {od11 an11 : Option Addr} {sl11 : Array (Option Value)} {oc11 kV11 dc11 pm11 cd11 ct11 : Value}
    (a11 : PySem.W.nsIn K mainGlobals "are_octets" = some (some (.ref f11))) (l11 : K.lookup f11 = some ⟨oc11, od11, .func (PySem.W.fnOf "are_octets" "are_octets" (defArgs s_are_octets) (defBody s_are_octets) (defScope s_are_octets) .none kV11 dc11 pm11 an11 cd11 ct11), sl11⟩) (c11 : PySem.W.codeIn K cd11 "are_octets" = true) (k11 : PySem.W.keepIn K (.ref f11) = true)
    {f12 : Addr} {od12 an12 : Option Addr} {sl12 : Array (Option Value)} {oc12 kV12 dc12 pm12 cd12 ct12 : Value}
    (a12 : PySem.W.nsIn K mainGlobals "check_setting" = some (some (.ref f12))) (l12 : K.lookup f12 = some ⟨oc12, od12, .func (PySem.W.fnOf "check_setting" "check_setting" (defArgs s_check_setting) (defBody s_check_setting) (defScope s_check_setting) .none kV12 dc12 pm12 an12 cd12 ct12), sl12⟩) (c12 : PySem.W.codeIn K cd12 "check_setting" = true) (k12 : PySem.W.keepIn K (.ref f12) = true)
    {f13 : Addr} {od13 an13 : Option Addr} {sl13 : Array (Option Value)} {oc13 kV13 dc13 pm13 cd13 ct13 : Value}
    (a13 : PySem.W.nsIn K mainGlobals "check_prefix" = some (some (.ref f13))) (l13 : K.lookup f13 = some ⟨oc13, od13, .func (PySem.W.fnOf "check_prefix" "check_prefix" (defArgs s_check_prefix) (defBody s_check_prefix) (defScope s_check_prefix) .none kV13 dc13 pm13 an13 cd13 ct13), sl13⟩) (c13 : PySem.W.codeIn K cd13 "check_prefix" = true) (k13 : PySem.W.keepIn K (.ref f13) = true)
    {f14 : Addr} {od14 an14 : Option Addr} {sl14 : Array (Option Value)} {oc14 kV14 dc14 pm14 cd14 ct14 : Value}
    (a14 : PySem.W.nsIn K mainGlobals "prefix_bits" = some (some (.ref f14))) (l14 : K.lookup f14 = some ⟨oc14, od14, .func (PySem.W.fnOf "prefix_bits" "prefix_bits" (defArgs s_prefix_bits) (defBody s_prefix_bits) (defScope s_prefix_bits) .none kV14 dc14 pm14 an14 cd14 ct14), sl14⟩) (c14 : PySem.W.codeIn K cd14 "prefix_bits" = true) (k14 : PySem.W.keepIn K (.ref f14) = true)
    {f15 : Addr} {od15 an15 : Option Addr} {sl15 : Array (Option Value)} {oc15 kV15 dc15 pm15 cd15 ct15 : Value}
    (a15 : PySem.W.nsIn K mainGlobals "number_octets" = some (some (.ref f15))) (l15 : K.lookup f15 = some ⟨oc15, od15, .func (PySem.W.fnOf "number_octets" "number_octets" (defArgs s_number_octets) (defBody s_number_octets) (defScope s_number_octets) .none kV15 dc15 pm15 an15 cd15 ct15), sl15⟩) (c15 : PySem.W.codeIn K cd15 "number_octets" = true) (k15 : PySem.W.keepIn K (.ref f15) = true)
    {f16 : Addr} {od16 an16 : Option Addr} {sl16 : Array (Option Value)} {oc16 kV16 dc16 pm16 cd16 ct16 : Value}
    (a16 : PySem.W.nsIn K mainGlobals "string_octets" = some (some (.ref f16))) (l16 : K.lookup f16 = some ⟨oc16, od16, .func (PySem.W.fnOf "string_octets" "string_octets" (defArgs s_string_octets) (defBody s_string_octets) (defScope s_string_octets) .none kV16 dc16 pm16 an16 cd16 ct16), sl16⟩) (c16 : PySem.W.codeIn K cd16 "string_octets" = true) (k16 : PySem.W.keepIn K (.ref f16) = true)
    {f17 : Addr} {od17 an17 : Option Addr} {sl17 : Array (Option Value)} {oc17 kV17 dc17 pm17 cd17 ct17 : Value}
    (a17 : PySem.W.nsIn K mainGlobals "value_octets" = some (some (.ref f17))) (l17 : K.lookup f17 = some ⟨oc17, od17, .func (PySem.W.fnOf "value_octets" "value_octets" (defArgs s_value_octets) (defBody s_value_octets) (defScope s_value_octets) .none kV17 dc17 pm17 an17 cd17 ct17), sl17⟩) (c17 : PySem.W.codeIn K cd17 "value_octets" = true) (k17 : PySem.W.keepIn K (.ref f17) = true)
    {f18 : Addr} {od18 an18 : Option Addr} {sl18 : Array (Option Value)} {oc18 kV18 dc18 pm18 cd18 ct18 : Value}
    (a18 : PySem.W.nsIn K mainGlobals "is_instruction" = some (some (.ref f18))) (l18 : K.lookup f18 = some ⟨oc18, od18, .func (PySem.W.fnOf "is_instruction" "is_instruction" (defArgs s_is_instruction) (defBody s_is_instruction) (defScope s_is_instruction) .none kV18 dc18 pm18 an18 cd18 ct18), sl18⟩) (c18 : PySem.W.codeIn K cd18 "is_instruction" = true) (k18 : PySem.W.keepIn K (.ref f18) = true)
    {f19 : Addr} {od19 an19 : Option Addr} {sl19 : Array (Option Value)} {oc19 kV19 dc19 pm19 cd19 ct19 : Value}
    (a19 : PySem.W.nsIn K mainGlobals "write_instruction" = some (some (.ref f19))) (l19 : K.lookup f19 = some ⟨oc19, od19, .func (PySem.W.fnOf "write_instruction" "write_instruction" (defArgs s_write_instruction) (defBody s_write_instruction) (defScope s_write_instruction) .none kV19 dc19 pm19 an19 cd19 ct19), sl19⟩) (c19 : PySem.W.codeIn K cd19 "write_instruction" = true) (k19 : PySem.W.keepIn K (.ref f19) = true)
    {f20 : Addr} {od20 an20 : Option Addr} {sl20 : Array (Option Value)} {oc20 kV20 dc20 pm20 cd20 ct20 : Value}
    (a20 : PySem.W.nsIn K mainGlobals "source_octets" = some (some (.ref f20))) (l20 : K.lookup f20 = some ⟨oc20, od20, .func (PySem.W.fnOf "source_octets" "source_octets" (defArgs s_source_octets) (defBody s_source_octets) (defScope s_source_octets) .none kV20 dc20 pm20 an20 cd20 ct20), sl20⟩) (c20 : PySem.W.codeIn K cd20 "source_octets" = true) (k20 : PySem.W.keepIn K (.ref f20) = true)
    {f21 : Addr} {od21 an21 : Option Addr} {sl21 : Array (Option Value)} {oc21 kV21 dc21 pm21 cd21 ct21 : Value}
    (a21 : PySem.W.nsIn K mainGlobals "is_answer" = some (some (.ref f21))) (l21 : K.lookup f21 = some ⟨oc21, od21, .func (PySem.W.fnOf "is_answer" "is_answer" (defArgs s_is_answer) (defBody s_is_answer) (defScope s_is_answer) .none kV21 dc21 pm21 an21 cd21 ct21), sl21⟩) (c21 : PySem.W.codeIn K cd21 "is_answer" = true) (k21 : PySem.W.keepIn K (.ref f21) = true)
    {f22 : Addr} {od22 an22 : Option Addr} {sl22 : Array (Option Value)} {oc22 kV22 dc22 pm22 cd22 ct22 : Value}
    (a22 : PySem.W.nsIn K mainGlobals "write_answer" = some (some (.ref f22))) (l22 : K.lookup f22 = some ⟨oc22, od22, .func (PySem.W.fnOf "write_answer" "write_answer" (defArgs s_write_answer) (defBody s_write_answer) (defScope s_write_answer) .none kV22 dc22 pm22 an22 cd22 ct22), sl22⟩) (c22 : PySem.W.codeIn K cd22 "write_answer" = true) (k22 : PySem.W.keepIn K (.ref f22) = true)
    {f23 : Addr} {od23 an23 : Option Addr} {sl23 : Array (Option Value)} {oc23 kV23 dc23 pm23 cd23 ct23 : Value}
    (a23 : PySem.W.nsIn K mainGlobals "is_line" = some (some (.ref f23))) (l23 : K.lookup f23 = some ⟨oc23, od23, .func (PySem.W.fnOf "is_line" "is_line" (defArgs s_is_line) (defBody s_is_line) (defScope s_is_line) .none kV23 dc23 pm23 an23 cd23 ct23), sl23⟩) (c23 : PySem.W.codeIn K cd23 "is_line" = true) (k23 : PySem.W.keepIn K (.ref f23) = true)
    {f24 : Addr} {od24 an24 : Option Addr} {sl24 : Array (Option Value)} {oc24 kV24 dc24 pm24 cd24 ct24 : Value}
    (a24 : PySem.W.nsIn K mainGlobals "is_block" = some (some (.ref f24))) (l24 : K.lookup f24 = some ⟨oc24, od24, .func (PySem.W.fnOf "is_block" "is_block" (defArgs s_is_block) (defBody s_is_block) (defScope s_is_block) .none kV24 dc24 pm24 an24 cd24 ct24), sl24⟩) (c24 : PySem.W.codeIn K cd24 "is_block" = true) (k24 : PySem.W.keepIn K (.ref f24) = true)
    {f25 : Addr} {od25 an25 : Option Addr} {sl25 : Array (Option Value)} {oc25 kV25 dc25 pm25 cd25 ct25 : Value}
    (a25 : PySem.W.nsIn K mainGlobals "write_block" = some (some (.ref f25))) (l25 : K.lookup f25 = some ⟨oc25, od25, .func (PySem.W.fnOf "write_block" "write_block" (defArgs s_write_block) (defBody s_write_block) (defScope s_write_block) .none kV25 dc25 pm25 an25 cd25 ct25), sl25⟩) (c25 : PySem.W.codeIn K cd25 "write_block" = true) (k25 : PySem.W.keepIn K (.ref f25) = true)
    {f26 : Addr} {od26 an26 : Option Addr} {sl26 : Array (Option Value)} {oc26 kV26 dc26 pm26 cd26 ct26 : Value}
    (a26 : PySem.W.nsIn K mainGlobals "line_octets" = some (some (.ref f26))) (l26 : K.lookup f26 = some ⟨oc26, od26, .func (PySem.W.fnOf "line_octets" "line_octets" (defArgs s_line_octets) (defBody s_line_octets) (defScope s_line_octets) .none kV26 dc26 pm26 an26 cd26 ct26), sl26⟩) (c26 : PySem.W.codeIn K cd26 "line_octets" = true) (k26 : PySem.W.keepIn K (.ref f26) = true)
    {f27 : Addr} {od27 an27 : Option Addr} {sl27 : Array (Option Value)} {oc27 kV27 dc27 pm27 cd27 ct27 : Value}
    (a27 : PySem.W.nsIn K mainGlobals "whole_octets" = some (some (.ref f27))) (l27 : K.lookup f27 = some ⟨oc27, od27, .func (PySem.W.fnOf "whole_octets" "whole_octets" (defArgs s_whole_octets) (defBody s_whole_octets) (defScope s_whole_octets) .none kV27 dc27 pm27 an27 cd27 ct27), sl27⟩) (c27 : PySem.W.codeIn K cd27 "whole_octets" = true) (k27 : PySem.W.keepIn K (.ref f27) = true)
    {f28 : Addr} {od28 an28 : Option Addr} {sl28 : Array (Option Value)} {oc28 kV28 dc28 pm28 cd28 ct28 : Value}
    (a28 : PySem.W.nsIn K mainGlobals "named_octets" = some (some (.ref f28))) (l28 : K.lookup f28 = some ⟨oc28, od28, .func (PySem.W.fnOf "named_octets" "named_octets" (defArgs s_named_octets) (defBody s_named_octets) (defScope s_named_octets) .none kV28 dc28 pm28 an28 cd28 ct28), sl28⟩) (c28 : PySem.W.codeIn K cd28 "named_octets" = true) (k28 : PySem.W.keepIn K (.ref f28) = true)
    {f29 : Addr} {od29 an29 : Option Addr} {sl29 : Array (Option Value)} {oc29 kV29 dc29 pm29 cd29 ct29 : Value}
    (a29 : PySem.W.nsIn K mainGlobals "run_table" = some (some (.ref f29))) (l29 : K.lookup f29 = some ⟨oc29, od29, .func (PySem.W.fnOf "run_table" "run_table" (defArgs s_run_table) (defBody s_run_table) (defScope s_run_table) .none kV29 dc29 pm29 an29 cd29 ct29), sl29⟩) (c29 : PySem.W.codeIn K cd29 "run_table" = true) (k29 : PySem.W.keepIn K (.ref f29) = true)
    {f30 : Addr} {od30 an30 : Option Addr} {sl30 : Array (Option Value)} {oc30 kV30 dc30 pm30 cd30 ct30 : Value}
    (a30 : PySem.W.nsIn K mainGlobals "said_field" = some (some (.ref f30))) (l30 : K.lookup f30 = some ⟨oc30, od30, .func (PySem.W.fnOf "said_field" "said_field" (defArgs s_said_field) (defBody s_said_field) (defScope s_said_field) .none kV30 dc30 pm30 an30 cd30 ct30), sl30⟩) (c30 : PySem.W.codeIn K cd30 "said_field" = true) (k30 : PySem.W.keepIn K (.ref f30) = true)
    {f31 : Addr} {od31 an31 : Option Addr} {sl31 : Array (Option Value)} {oc31 kV31 dc31 pm31 cd31 ct31 : Value}
    (a31 : PySem.W.nsIn K mainGlobals "referred" = some (some (.ref f31))) (l31 : K.lookup f31 = some ⟨oc31, od31, .func (PySem.W.fnOf "referred" "referred" (defArgs s_referred) (defBody s_referred) (defScope s_referred) .none kV31 dc31 pm31 an31 cd31 ct31), sl31⟩) (c31 : PySem.W.codeIn K cd31 "referred" = true) (k31 : PySem.W.keepIn K (.ref f31) = true)
    {f32 : Addr} {od32 an32 : Option Addr} {sl32 : Array (Option Value)} {oc32 kV32 dc32 pm32 cd32 ct32 : Value}
    (a32 : PySem.W.nsIn K mainGlobals "entry_size" = some (some (.ref f32))) (l32 : K.lookup f32 = some ⟨oc32, od32, .func (PySem.W.fnOf "entry_size" "entry_size" (defArgs s_entry_size) (defBody s_entry_size) (defScope s_entry_size) .none kV32 dc32 pm32 an32 cd32 ct32), sl32⟩) (c32 : PySem.W.codeIn K cd32 "entry_size" = true) (k32 : PySem.W.keepIn K (.ref f32) = true)
    {f33 : Addr} {od33 an33 : Option Addr} {sl33 : Array (Option Value)} {oc33 kV33 dc33 pm33 cd33 ct33 : Value}
    (a33 : PySem.W.findIn K (.ref C4) "__init__" = some (some (.ref f33))) (l33 : K.lookup f33 = some ⟨oc33, od33, .func (PySem.W.fnOf "__init__" "Table.__init__" (defArgs s_Table_init) (defBody s_Table_init) (defScope s_Table_init) .none kV33 dc33 pm33 an33 cd33 ct33), sl33⟩) (c33 : PySem.W.codeIn K cd33 "Table.__init__" = true) (k33 : PySem.W.keepIn K (.ref f33) = true)
    (i33 : PySem.W.isFn K (.ref f33) = true) (t33 : PySem.W.typeIn K (.ref f33) = some (.type "function"))
    {f34 : Addr} {od34 an34 : Option Addr} {sl34 : Array (Option Value)} {oc34 kV34 dc34 pm34 cd34 ct34 : Value}
    (a34 : PySem.W.findIn K (.ref C4) "copied" = some (some (.ref f34))) (l34 : K.lookup f34 = some ⟨oc34, od34, .func (PySem.W.fnOf "copied" "Table.copied" (defArgs s_Table_copied) (defBody s_Table_copied) (defScope s_Table_copied) .none kV34 dc34 pm34 an34 cd34 ct34), sl34⟩) (c34 : PySem.W.codeIn K cd34 "Table.copied" = true) (k34 : PySem.W.keepIn K (.ref f34) = true)
    (i34 : PySem.W.isFn K (.ref f34) = true) (t34 : PySem.W.typeIn K (.ref f34) = some (.type "function"))
    {f35 : Addr} {od35 an35 : Option Addr} {sl35 : Array (Option Value)} {oc35 kV35 dc35 pm35 cd35 ct35 : Value}
    (a35 : PySem.W.findIn K (.ref C4) "carry_out" = some (some (.ref f35))) (l35 : K.lookup f35 = some ⟨oc35, od35, .func (PySem.W.fnOf "carry_out" "Table.carry_out" (defArgs s_Table_carry_out) (defBody s_Table_carry_out) (defScope s_Table_carry_out) .none kV35 dc35 pm35 an35 cd35 ct35), sl35⟩) (c35 : PySem.W.codeIn K cd35 "Table.carry_out" = true) (k35 : PySem.W.keepIn K (.ref f35) = true)
    (i35 : PySem.W.isFn K (.ref f35) = true) (t35 : PySem.W.typeIn K (.ref f35) = some (.type "function"))
    {f36 : Addr} {od36 an36 : Option Addr} {sl36 : Array (Option Value)} {oc36 kV36 dc36 pm36 cd36 ct36 : Value}
    (a36 : PySem.W.findIn K (.ref C4) "set_bound" = some (some (.ref f36))) (l36 : K.lookup f36 = some ⟨oc36, od36, .func (PySem.W.fnOf "set_bound" "Table.set_bound" (defArgs s_Table_set_bound) (defBody s_Table_set_bound) (defScope s_Table_set_bound) .none kV36 dc36 pm36 an36 cd36 ct36), sl36⟩) (c36 : PySem.W.codeIn K cd36 "Table.set_bound" = true) (k36 : PySem.W.keepIn K (.ref f36) = true)
    (i36 : PySem.W.isFn K (.ref f36) = true) (t36 : PySem.W.typeIn K (.ref f36) = some (.type "function"))
    {f37 : Addr} {od37 an37 : Option Addr} {sl37 : Array (Option Value)} {oc37 kV37 dc37 pm37 cd37 ct37 : Value}
    (a37 : PySem.W.findIn K (.ref C4) "inserted" = some (some (.ref f37))) (l37 : K.lookup f37 = some ⟨oc37, od37, .func (PySem.W.fnOf "inserted" "Table.inserted" (defArgs s_Table_inserted) (defBody s_Table_inserted) (defScope s_Table_inserted) .none kV37 dc37 pm37 an37 cd37 ct37), sl37⟩) (c37 : PySem.W.codeIn K cd37 "Table.inserted" = true) (k37 : PySem.W.keepIn K (.ref f37) = true)
    (i37 : PySem.W.isFn K (.ref f37) = true) (t37 : PySem.W.typeIn K (.ref f37) = some (.type "function"))
    {f38 : Addr} {od38 an38 : Option Addr} {sl38 : Array (Option Value)} {oc38 kV38 dc38 pm38 cd38 ct38 : Value}
    (a38 : PySem.W.findIn K (.ref C4) "has_room" = some (some (.ref f38))) (l38 : K.lookup f38 = some ⟨oc38, od38, .func (PySem.W.fnOf "has_room" "Table.has_room" (defArgs s_Table_has_room) (defBody s_Table_has_room) (defScope s_Table_has_room) .none kV38 dc38 pm38 an38 cd38 ct38), sl38⟩) (c38 : PySem.W.codeIn K cd38 "Table.has_room" = true) (k38 : PySem.W.keepIn K (.ref f38) = true)
    (i38 : PySem.W.isFn K (.ref f38) = true) (t38 : PySem.W.typeIn K (.ref f38) = some (.type "function"))
    {f39 : Addr} {od39 an39 : Option Addr} {sl39 : Array (Option Value)} {oc39 kV39 dc39 pm39 cd39 ct39 : Value}
    (a39 : PySem.W.findIn K (.ref C4) "leaving" = some (some (.ref f39))) (l39 : K.lookup f39 = some ⟨oc39, od39, .func (PySem.W.fnOf "leaving" "Table.leaving" (defArgs s_Table_leaving) (defBody s_Table_leaving) (defScope s_Table_leaving) .none kV39 dc39 pm39 an39 cd39 ct39), sl39⟩) (c39 : PySem.W.codeIn K cd39 "Table.leaving" = true) (k39 : PySem.W.keepIn K (.ref f39) = true)
    (i39 : PySem.W.isFn K (.ref f39) = true) (t39 : PySem.W.typeIn K (.ref f39) = some (.type "function"))
    {f40 : Addr} {od40 an40 : Option Addr} {sl40 : Array (Option Value)} {oc40 kV40 dc40 pm40 cd40 ct40 : Value}
    (a40 : PySem.W.findIn K (.ref C4) "drop" = some (some (.ref f40))) (l40 : K.lookup f40 = some ⟨oc40, od40, .func (PySem.W.fnOf "drop" "Table.drop" (defArgs s_Table_drop) (defBody s_Table_drop) (defScope s_Table_drop) .none kV40 dc40 pm40 an40 cd40 ct40), sl40⟩) (c40 : PySem.W.codeIn K cd40 "Table.drop" = true) (k40 : PySem.W.keepIn K (.ref f40) = true)
    (i40 : PySem.W.isFn K (.ref f40) = true) (t40 : PySem.W.typeIn K (.ref f40) = some (.type "function"))
    {f41 : Addr} {od41 an41 : Option Addr} {sl41 : Array (Option Value)} {oc41 kV41 dc41 pm41 cd41 ct41 : Value}
    (a41 : PySem.W.nsIn K mainGlobals "is_event" = some (some (.ref f41))) (l41 : K.lookup f41 = some ⟨oc41, od41, .func (PySem.W.fnOf "is_event" "is_event" (defArgs s_is_event) (defBody s_is_event) (defScope s_is_event) .none kV41 dc41 pm41 an41 cd41 ct41), sl41⟩) (c41 : PySem.W.codeIn K cd41 "is_event" = true) (k41 : PySem.W.keepIn K (.ref f41) = true)
    {f42 : Addr} {od42 an42 : Option Addr} {sl42 : Array (Option Value)} {oc42 kV42 dc42 pm42 cd42 ct42 : Value}
    (a42 : PySem.W.nsIn K mainGlobals "is_log" = some (some (.ref f42))) (l42 : K.lookup f42 = some ⟨oc42, od42, .func (PySem.W.fnOf "is_log" "is_log" (defArgs s_is_log) (defBody s_is_log) (defScope s_is_log) .none kV42 dc42 pm42 an42 cd42 ct42), sl42⟩) (c42 : PySem.W.codeIn K cd42 "is_log" = true) (k42 : PySem.W.keepIn K (.ref f42) = true)
    {f43 : Addr} {od43 an43 : Option Addr} {sl43 : Array (Option Value)} {oc43 kV43 dc43 pm43 cd43 ct43 : Value}
    (a43 : PySem.W.nsIn K mainGlobals "_law_spread" = some (some (.ref f43))) (l43 : K.lookup f43 = some ⟨oc43, od43, .func (PySem.W.fnOf "_law_spread" "_law_spread" (defArgs s_law_spread) (defBody s_law_spread) (defScope s_law_spread) .none kV43 dc43 pm43 an43 cd43 ct43), sl43⟩) (c43 : PySem.W.codeIn K cd43 "_law_spread" = true) (k43 : PySem.W.keepIn K (.ref f43) = true)
    {f44 : Addr} {od44 an44 : Option Addr} {sl44 : Array (Option Value)} {oc44 kV44 dc44 pm44 cd44 ct44 : Value}
    (a44 : PySem.W.nsIn K mainGlobals "_law_open" = some (some (.ref f44))) (l44 : K.lookup f44 = some ⟨oc44, od44, .func (PySem.W.fnOf "_law_open" "_law_open" (defArgs s_law_open) (defBody s_law_open) (defScope s_law_open) .none kV44 dc44 pm44 an44 cd44 ct44), sl44⟩) (c44 : PySem.W.codeIn K cd44 "_law_open" = true) (k44 : PySem.W.keepIn K (.ref f44) = true)
    {f45 : Addr} {od45 an45 : Option Addr} {sl45 : Array (Option Value)} {oc45 kV45 dc45 pm45 cd45 ct45 : Value}
    (a45 : PySem.W.nsIn K mainGlobals "_law_take" = some (some (.ref f45))) (l45 : K.lookup f45 = some ⟨oc45, od45, .func (PySem.W.fnOf "_law_take" "_law_take" (defArgs s_law_take) (defBody s_law_take) (defScope s_law_take) .none kV45 dc45 pm45 an45 cd45 ct45), sl45⟩) (c45 : PySem.W.codeIn K cd45 "_law_take" = true) (k45 : PySem.W.keepIn K (.ref f45) = true)
    {f46 : Addr} {od46 an46 : Option Addr} {sl46 : Array (Option Value)} {oc46 kV46 dc46 pm46 cd46 ct46 : Value}
    (a46 : PySem.W.nsIn K mainGlobals "_law_u_pick" = some (some (.ref f46))) (l46 : K.lookup f46 = some ⟨oc46, od46, .func (PySem.W.fnOf "_law_u_pick" "_law_u_pick" (defArgs s_law_u_pick) (defBody s_law_u_pick) (defScope s_law_u_pick) .none kV46 dc46 pm46 an46 cd46 ct46), sl46⟩) (c46 : PySem.W.codeIn K cd46 "_law_u_pick" = true) (k46 : PySem.W.keepIn K (.ref f46) = true)
    {f47 : Addr} {od47 an47 : Option Addr} {sl47 : Array (Option Value)} {oc47 kV47 dc47 pm47 cd47 ct47 : Value}
    (a47 : PySem.W.nsIn K mainGlobals "_law_u_behind" = some (some (.ref f47))) (l47 : K.lookup f47 = some ⟨oc47, od47, .func (PySem.W.fnOf "_law_u_behind" "_law_u_behind" (defArgs s_law_u_behind) (defBody s_law_u_behind) (defScope s_law_u_behind) .none kV47 dc47 pm47 an47 cd47 ct47), sl47⟩) (c47 : PySem.W.codeIn K cd47 "_law_u_behind" = true) (k47 : PySem.W.keepIn K (.ref f47) = true)
    {f48 : Addr} {od48 an48 : Option Addr} {sl48 : Array (Option Value)} {oc48 kV48 dc48 pm48 cd48 ct48 : Value}
    (a48 : PySem.W.nsIn K mainGlobals "_law_u_octets" = some (some (.ref f48))) (l48 : K.lookup f48 = some ⟨oc48, od48, .func (PySem.W.fnOf "_law_u_octets" "_law_u_octets" (defArgs s_law_u_octets) (defBody s_law_u_octets) (defScope s_law_u_octets) .none kV48 dc48 pm48 an48 cd48 ct48), sl48⟩) (c48 : PySem.W.codeIn K cd48 "_law_u_octets" = true) (k48 : PySem.W.keepIn K (.ref f48) = true)
    {f49 : Addr} {od49 an49 : Option Addr} {sl49 : Array (Option Value)} {oc49 kV49 dc49 pm49 cd49 ct49 : Value}
    (a49 : PySem.W.nsIn K mainGlobals "_law_u_log" = some (some (.ref f49))) (l49 : K.lookup f49 = some ⟨oc49, od49, .func (PySem.W.fnOf "_law_u_log" "_law_u_log" (defArgs s_law_u_log) (defBody s_law_u_log) (defScope s_law_u_log) .none kV49 dc49 pm49 an49 cd49 ct49), sl49⟩) (c49 : PySem.W.codeIn K cd49 "_law_u_log" = true) (k49 : PySem.W.keepIn K (.ref f49) = true)
    {f50 : Addr} {od50 an50 : Option Addr} {sl50 : Array (Option Value)} {oc50 kV50 dc50 pm50 cd50 ct50 : Value}
    (a50 : PySem.W.nsIn K mainGlobals "_law_u_setting" = some (some (.ref f50))) (l50 : K.lookup f50 = some ⟨oc50, od50, .func (PySem.W.fnOf "_law_u_setting" "_law_u_setting" (defArgs s_law_u_setting) (defBody s_law_u_setting) (defScope s_law_u_setting) .none kV50 dc50 pm50 an50 cd50 ct50), sl50⟩) (c50 : PySem.W.codeIn K cd50 "_law_u_setting" = true) (k50 : PySem.W.keepIn K (.ref f50) = true)
    {f51 : Addr} {od51 an51 : Option Addr} {sl51 : Array (Option Value)} {oc51 kV51 dc51 pm51 cd51 ct51 : Value}
    (a51 : PySem.W.nsIn K mainGlobals "_law_u_instruction" = some (some (.ref f51))) (l51 : K.lookup f51 = some ⟨oc51, od51, .func (PySem.W.fnOf "_law_u_instruction" "_law_u_instruction" (defArgs s_law_u_instruction) (defBody s_law_u_instruction) (defScope s_law_u_instruction) .none kV51 dc51 pm51 an51 cd51 ct51), sl51⟩) (c51 : PySem.W.codeIn K cd51 "_law_u_instruction" = true) (k51 : PySem.W.keepIn K (.ref f51) = true)
    {f52 : Addr} {od52 an52 : Option Addr} {sl52 : Array (Option Value)} {oc52 kV52 dc52 pm52 cd52 ct52 : Value}
    (a52 : PySem.W.nsIn K mainGlobals "_law_u_block" = some (some (.ref f52))) (l52 : K.lookup f52 = some ⟨oc52, od52, .func (PySem.W.fnOf "_law_u_block" "_law_u_block" (defArgs s_law_u_block) (defBody s_law_u_block) (defScope s_law_u_block) .none kV52 dc52 pm52 an52 cd52 ct52), sl52⟩) (c52 : PySem.W.codeIn K cd52 "_law_u_block" = true) (k52 : PySem.W.keepIn K (.ref f52) = true)
    {f53 : Addr} {od53 an53 : Option Addr} {sl53 : Array (Option Value)} {oc53 kV53 dc53 pm53 cd53 ct53 : Value}
    (a53 : PySem.W.nsIn K mainGlobals "_law_u_events" = some (some (.ref f53))) (l53 : K.lookup f53 = some ⟨oc53, od53, .func (PySem.W.fnOf "_law_u_events" "_law_u_events" (defArgs s_law_u_events) (defBody s_law_u_events) (defScope s_law_u_events) .none kV53 dc53 pm53 an53 cd53 ct53), sl53⟩) (c53 : PySem.W.codeIn K cd53 "_law_u_events" = true) (k53 : PySem.W.keepIn K (.ref f53) = true)
    {f54 : Addr} {od54 an54 : Option Addr} {sl54 : Array (Option Value)} {oc54 kV54 dc54 pm54 cd54 ct54 : Value}
    (a54 : PySem.W.nsIn K mainGlobals "_law_u_are_octets" = some (some (.ref f54))) (l54 : K.lookup f54 = some ⟨oc54, od54, .func (PySem.W.fnOf "_law_u_are_octets" "_law_u_are_octets" (defArgs s_law_u_are_octets) (defBody s_law_u_are_octets) (defScope s_law_u_are_octets) .none kV54 dc54 pm54 an54 cd54 ct54), sl54⟩) (c54 : PySem.W.codeIn K cd54 "_law_u_are_octets" = true) (k54 : PySem.W.keepIn K (.ref f54) = true)
    {f55 : Addr} {od55 an55 : Option Addr} {sl55 : Array (Option Value)} {oc55 kV55 dc55 pm55 cd55 ct55 : Value}
    (a55 : PySem.W.nsIn K mainGlobals "_law_u_is_event" = some (some (.ref f55))) (l55 : K.lookup f55 = some ⟨oc55, od55, .func (PySem.W.fnOf "_law_u_is_event" "_law_u_is_event" (defArgs s_law_u_is_event) (defBody s_law_u_is_event) (defScope s_law_u_is_event) .none kV55 dc55 pm55 an55 cd55 ct55), sl55⟩) (c55 : PySem.W.codeIn K cd55 "_law_u_is_event" = true) (k55 : PySem.W.keepIn K (.ref f55) = true)
    {f56 : Addr} {od56 an56 : Option Addr} {sl56 : Array (Option Value)} {oc56 kV56 dc56 pm56 cd56 ct56 : Value}
    (a56 : PySem.W.nsIn K mainGlobals "_law_u_bent" = some (some (.ref f56))) (l56 : K.lookup f56 = some ⟨oc56, od56, .func (PySem.W.fnOf "_law_u_bent" "_law_u_bent" (defArgs s_law_u_bent) (defBody s_law_u_bent) (defScope s_law_u_bent) .none kV56 dc56 pm56 an56 cd56 ct56), sl56⟩) (c56 : PySem.W.codeIn K cd56 "_law_u_bent" = true) (k56 : PySem.W.keepIn K (.ref f56) = true)
    {f57 : Addr} {od57 an57 : Option Addr} {sl57 : Array (Option Value)} {oc57 kV57 dc57 pm57 cd57 ct57 : Value}
    (a57 : PySem.W.nsIn K mainGlobals "law" = some (some (.ref f57))) (l57 : K.lookup f57 = some ⟨oc57, od57, .func (PySem.W.fnOf "law" "law" (defArgs s_law) (defBody s_law) (defScope s_law) .none kV57 dc57 pm57 an57 cd57 ct57), sl57⟩) (c57 : PySem.W.codeIn K cd57 "law" = true) (k57 : PySem.W.keepIn K (.ref f57) = true)
    {tk0 : Tok} (v0 : PySem.W.nsIn K mainGlobals "NUMBER_MOST" = some (some (.int 9999 tk0)))
    {tk1 : Tok} (v1 : PySem.W.nsIn K mainGlobals "STREAM_MOST" = some (some (.int 20 tk1)))
    {tk2 : Tok} (v2 : PySem.W.nsIn K mainGlobals "NAME_MOST" = some (some (.int 20 tk2)))
    {tk3 : Tok} (v3 : PySem.W.nsIn K mainGlobals "VALUE_MOST" = some (some (.int 40 tk3)))
    {tk4 : Tok} (v4 : PySem.W.nsIn K mainGlobals "FIXED_MOST" = some (some (.int 12 tk4)))
    {tk5 : Tok} (v5 : PySem.W.nsIn K mainGlobals "ROOM_MOST" = some (some (.int 120 tk5)))
    {tk6 : Tok} (v6 : PySem.W.nsIn K mainGlobals "WAITING_MOST" = some (some (.int 4 tk6)))
    {tk7 : Tok} (v7 : PySem.W.nsIn K mainGlobals "VALUE_PREFIX" = some (some (.int 7 tk7)))
    {ad8 : Addr} {es8 : Array DictEntry} {nd8 : Nat} (v8 : PySem.W.nsIn K mainGlobals "CHARACTERS" = some (some (.ref ad8))) (w8 : K.lookup ad8 = some ⟨.type "dict", none, .dict es8 nd8, #[]⟩) (e8 : EntI es8.toList chars) (q8 : (ad8 == sysModules) = false)
    {tk9 : Tok} (v9 : PySem.W.nsIn K mainGlobals "LINES_MOST" = some (some (.int 16 tk9)))
    {tk10 : Tok} (v10 : PySem.W.nsIn K mainGlobals "SIZE_MORE" = some (some (.int 4 tk10)))
    {tk11 : Tok} (v11 : PySem.W.nsIn K mainGlobals "EVENTS_MOST" = some (some (.int 40 tk11)))
    (z0 : PySem.W.nsIn K mainGlobals "all" = some none)
    (z1 : PySem.W.nsIn K mainGlobals "bool" = some none)
    (z2 : PySem.W.nsIn K mainGlobals "enumerate" = some none)
    (z3 : PySem.W.nsIn K mainGlobals "int" = some none)
    (z4 : PySem.W.nsIn K mainGlobals "isinstance" = some none)
    (z5 : PySem.W.nsIn K mainGlobals "len" = some none)
    (z6 : PySem.W.nsIn K mainGlobals "list" = some none)
    (z7 : PySem.W.nsIn K mainGlobals "max" = some none)
    (z8 : PySem.W.nsIn K mainGlobals "ord" = some none)
    (z9 : PySem.W.nsIn K mainGlobals "range" = some none)
    (z10 : PySem.W.nsIn K mainGlobals "repr" = some none)
    (z11 : PySem.W.nsIn K mainGlobals "sorted" = some none)
    (z12 : PySem.W.nsIn K mainGlobals "str" = some none)
    (z13 : PySem.W.nsIn K mainGlobals "sum" = some none)
    (z14 : PySem.W.nsIn K mainGlobals "tuple" = some none)
    : ∃ fd : FuncData, (∀ (s : Shared) (v : Value), BindsTo s fd ⟨[v], []⟩ [("script", v)]) ∧ TopOk l.prog w K mg 10 fa fd ["script"] (spLaw K) := by
  have e := hfa.symm.trans (PySem.W.mg_of X G a57)
  cases e
  have F0 := fun_mk (st := s_wall) l0 c0 k0
  have b0 := F0.binds (ps := ["k"]) fun _ _ _ _ _ _ us hl => match us, hl with | [_], _ => rfl
  have F1 := fun_mk (st := s_BadTable_init) l1 c1 k1
  have b1 := F1.binds (ps := ["self", "number"]) fun _ _ _ _ _ _ us hl => match us, hl with | [_, _], _ => rfl
  have F2 := fun_mk (st := s_is_between) l2 c2 k2
  have b2 := F2.binds (ps := ["thing", "least", "most"]) fun _ _ _ _ _ _ us hl => match us, hl with | [_, _, _], _ => rfl
  have F3 := fun_mk (st := s_is_number) l3 c3 k3
  have b3 := F3.binds (ps := ["thing"]) fun _ _ _ _ _ _ us hl => match us, hl with | [_], _ => rfl
  have F4 := fun_mk (st := s_is_stream) l4 c4 k4
  have b4 := F4.binds (ps := ["thing"]) fun _ _ _ _ _ _ us hl => match us, hl with | [_], _ => rfl
  have F5 := fun_mk (st := s_is_text) l5 c5 k5
  have b5 := F5.binds (ps := ["thing", "least", "most"]) fun _ _ _ _ _ _ us hl => match us, hl with | [_, _, _], _ => rfl
  have F6 := fun_mk (st := s_is_name) l6 c6 k6
  have b6 := F6.binds (ps := ["thing"]) fun _ _ _ _ _ _ us hl => match us, hl with | [_], _ => rfl
  have F7 := fun_mk (st := s_is_value) l7 c7 k7
  have b7 := F7.binds (ps := ["thing"]) fun _ _ _ _ _ _ us hl => match us, hl with | [_], _ => rfl
  have F8 := fun_mk (st := s_is_field) l8 c8 k8
  have b8 := F8.binds (ps := ["thing"]) fun _ _ _ _ _ _ us hl => match us, hl with | [_], _ => rfl
  have F9 := fun_mk (st := s_is_tuple_of_fields) l9 c9 k9
  have b9 := F9.binds (ps := ["thing", "most"]) fun _ _ _ _ _ _ us hl => match us, hl with | [_, _], _ => rfl
  have F10 := fun_mk (st := s_is_setting) l10 c10 k10
  have b10 := F10.binds (ps := ["thing"]) fun _ _ _ _ _ _ us hl => match us, hl with | [_], _ => rfl
  have F11 := fun_mk (st := s_are_octets) l11 c11 k11
  have b11 := F11.binds (ps := ["thing"]) fun _ _ _ _ _ _ us hl => match us, hl with | [_], _ => rfl
  have F12 := fun_mk (st := s_check_setting) l12 c12 k12
  have b12 := F12.binds (ps := ["setting"]) fun _ _ _ _ _ _ us hl => match us, hl with | [_], _ => rfl
  have F13 := fun_mk (st := s_check_prefix) l13 c13 k13
  have b13 := F13.binds (ps := ["prefix", "mark"]) fun _ _ _ _ _ _ us hl => match us, hl with | [_, _], _ => rfl
  have F14 := fun_mk (st := s_prefix_bits) l14 c14 k14
  have b14 := F14.binds (ps := ["prefix"]) fun _ _ _ _ _ _ us hl => match us, hl with | [_], _ => rfl
  have F15 := fun_mk (st := s_number_octets) l15 c15 k15
  have b15 := F15.binds (ps := ["number", "prefix", "mark"]) fun _ _ _ _ _ _ us hl => match us, hl with | [_, _, _], _ => rfl
  have F16 := fun_mk (st := s_string_octets) l16 c16 k16
  have b16 := F16.binds (ps := ["text", "prefix", "mark"]) fun _ _ _ _ _ _ us hl => match us, hl with | [_, _, _], _ => rfl
  have F17 := fun_mk (st := s_value_octets) l17 c17 k17
  have b17 := F17.binds (ps := ["value"]) fun _ _ _ _ _ _ us hl => match us, hl with | [_], _ => rfl
  have F18 := fun_mk (st := s_is_instruction) l18 c18 k18
  have b18 := F18.binds (ps := ["thing"]) fun _ _ _ _ _ _ us hl => match us, hl with | [_], _ => rfl
  have F19 := fun_mk (st := s_write_instruction) l19 c19 k19
  have b19 := F19.binds (ps := ["instruction"]) fun _ _ _ _ _ _ us hl => match us, hl with | [_], _ => rfl
  have F20 := fun_mk (st := s_source_octets) l20 c20 k20
  have b20 := F20.binds (ps := ["kind", "source"]) fun _ _ _ _ _ _ us hl => match us, hl with | [_, _], _ => rfl
  have F21 := fun_mk (st := s_is_answer) l21 c21 k21
  have b21 := F21.binds (ps := ["thing"]) fun _ _ _ _ _ _ us hl => match us, hl with | [_], _ => rfl
  have F22 := fun_mk (st := s_write_answer) l22 c22 k22
  have b22 := F22.binds (ps := ["answer"]) fun _ _ _ _ _ _ us hl => match us, hl with | [_], _ => rfl
  have F23 := fun_mk (st := s_is_line) l23 c23 k23
  have b23 := F23.binds (ps := ["thing", "required"]) fun _ _ _ _ _ _ us hl => match us, hl with | [_, _], _ => rfl
  have F24 := fun_mk (st := s_is_block) l24 c24 k24
  have b24 := F24.binds (ps := ["thing"]) fun _ _ _ _ _ _ us hl => match us, hl with | [_], _ => rfl
  have F25 := fun_mk (st := s_write_block) l25 c25 k25
  have b25 := F25.binds (ps := ["block"]) fun _ _ _ _ _ _ us hl => match us, hl with | [_], _ => rfl
  have F26 := fun_mk (st := s_line_octets) l26 c26 k26
  have b26 := F26.binds (ps := ["line", "base"]) fun _ _ _ _ _ _ us hl => match us, hl with | [_, _], _ => rfl
  have F27 := fun_mk (st := s_whole_octets) l27 c27 k27
  have b27 := F27.binds (ps := ["kind", "number", "base"]) fun _ _ _ _ _ _ us hl => match us, hl with | [_, _, _], _ => rfl
  have F28 := fun_mk (st := s_named_octets) l28 c28 k28
  have b28 := F28.binds (ps := ["kind", "number", "base"]) fun _ _ _ _ _ _ us hl => match us, hl with | [_, _, _], _ => rfl
  have F29 := fun_mk (st := s_run_table) l29 c29 k29
  have b29 := F29.binds (ps := ["setting", "instructions"]) fun _ _ _ _ _ _ us hl => match us, hl with | [_, _], _ => rfl
  have F30 := fun_mk (st := s_said_field) l30 c30 k30
  have b30 := F30.binds (ps := ["fixed", "entries", "line"]) fun _ _ _ _ _ _ us hl => match us, hl with | [_, _, _], _ => rfl
  have F31 := fun_mk (st := s_referred) l31 c31 k31
  have b31 := F31.binds (ps := ["fixed", "entries", "kind", "number"]) fun _ _ _ _ _ _ us hl => match us, hl with | [_, _, _, _], _ => rfl
  have F32 := fun_mk (st := s_entry_size) l32 c32 k32
  have b32 := F32.binds (ps := ["field"]) fun _ _ _ _ _ _ us hl => match us, hl with | [_], _ => rfl
  have F33 := fun_mk (st := s_Table_init) l33 c33 k33
  have b33 := F33.binds (ps := ["self", "setting"]) fun _ _ _ _ _ _ us hl => match us, hl with | [_, _], _ => rfl
  have F34 := fun_mk (st := s_Table_copied) l34 c34 k34
  have b34 := F34.binds (ps := ["self"]) fun _ _ _ _ _ _ us hl => match us, hl with | [_], _ => rfl
  have F35 := fun_mk (st := s_Table_carry_out) l35 c35 k35
  have b35 := F35.binds (ps := ["self", "instruction"]) fun _ _ _ _ _ _ us hl => match us, hl with | [_, _], _ => rfl
  have F36 := fun_mk (st := s_Table_set_bound) l36 c36 k36
  have b36 := F36.binds (ps := ["self", "bound"]) fun _ _ _ _ _ _ us hl => match us, hl with | [_, _], _ => rfl
  have F37 := fun_mk (st := s_Table_inserted) l37 c37 k37
  have b37 := F37.binds (ps := ["self", "instruction"]) fun _ _ _ _ _ _ us hl => match us, hl with | [_, _], _ => rfl
  have F38 := fun_mk (st := s_Table_has_room) l38 c38 k38
  have b38 := F38.binds (ps := ["self", "field"]) fun _ _ _ _ _ _ us hl => match us, hl with | [_, _], _ => rfl
  have F39 := fun_mk (st := s_Table_leaving) l39 c39 k39
  have b39 := F39.binds (ps := ["self", "bound", "more"]) fun _ _ _ _ _ _ us hl => match us, hl with | [_, _, _], _ => rfl
  have F40 := fun_mk (st := s_Table_drop) l40 c40 k40
  have b40 := F40.binds (ps := ["self", "numbers"]) fun _ _ _ _ _ _ us hl => match us, hl with | [_, _], _ => rfl
  have F41 := fun_mk (st := s_is_event) l41 c41 k41
  have b41 := F41.binds (ps := ["thing"]) fun _ _ _ _ _ _ us hl => match us, hl with | [_], _ => rfl
  have F42 := fun_mk (st := s_is_log) l42 c42 k42
  have b42 := F42.binds (ps := ["thing"]) fun _ _ _ _ _ _ us hl => match us, hl with | [_], _ => rfl
  have F43 := fun_mk (st := s_law_spread) l43 c43 k43
  have b43 := F43.binds (ps := ["cell", "at"]) fun _ _ _ _ _ _ us hl => match us, hl with | [_, _], _ => rfl
  have F44 := fun_mk (st := s_law_open) l44 c44 k44
  have b44 := F44.binds (ps := ["script"]) fun _ _ _ _ _ _ us hl => match us, hl with | [_], _ => rfl
  have F45 := fun_mk (st := s_law_take) l45 c45 k45
  have b45 := F45.binds (ps := ["pen", "many"]) fun _ _ _ _ _ _ us hl => match us, hl with | [_, _], _ => rfl
  have F46 := fun_mk (st := s_law_u_pick) l46 c46 k46
  have b46 := F46.binds (ps := ["pen", "some"]) fun _ _ _ _ _ _ us hl => match us, hl with | [_, _], _ => rfl
  have F47 := fun_mk (st := s_law_u_behind) l47 c47 k47
  have b47 := F47.binds (ps := ["fits", "carried"]) fun _ _ _ _ _ _ us hl => match us, hl with | [_, _], _ => rfl
  have F48 := fun_mk (st := s_law_u_octets) l48 c48 k48
  have b48 := F48.binds (ps := ["event"]) fun _ _ _ _ _ _ us hl => match us, hl with | [_], _ => rfl
  have F49 := fun_mk (st := s_law_u_log) l49 c49 k49
  have b49 := F49.binds (ps := ["events"]) fun _ _ _ _ _ _ us hl => match us, hl with | [_], _ => rfl
  have F50 := fun_mk (st := s_law_u_setting) l50 c50 k50
  have b50 := F50.binds (ps := ["pen"]) fun _ _ _ _ _ _ us hl => match us, hl with | [_], _ => rfl
  have F51 := fun_mk (st := s_law_u_instruction) l51 c51 k51
  have b51 := F51.binds (ps := ["pen", "fits", "count", "kept"]) fun _ _ _ _ _ _ us hl => match us, hl with | [_, _, _, _], _ => rfl
  have F52 := fun_mk (st := s_law_u_block) l52 c52 k52
  have b52 := F52.binds (ps := ["pen", "fits", "entries", "count"]) fun _ _ _ _ _ _ us hl => match us, hl with | [_, _, _, _], _ => rfl
  have F53 := fun_mk (st := s_law_u_events) l53 c53 k53
  have b53 := F53.binds (ps := ["pen", "fits", "many"]) fun _ _ _ _ _ _ us hl => match us, hl with | [_, _, _], _ => rfl
  have F54 := fun_mk (st := s_law_u_are_octets) l54 c54 k54
  have b54 := F54.binds (ps := ["given"]) fun _ _ _ _ _ _ us hl => match us, hl with | [_], _ => rfl
  have F55 := fun_mk (st := s_law_u_is_event) l55 c55 k55
  have b55 := F55.binds (ps := ["given"]) fun _ _ _ _ _ _ us hl => match us, hl with | [_], _ => rfl
  have F56 := fun_mk (st := s_law_u_bent) l56 c56 k56
  have b56 := F56.binds (ps := ["pen", "book"]) fun _ _ _ _ _ _ us hl => match us, hl with | [_, _], _ => rfl
  have F57 := fun_mk (st := s_law) l57 c57 k57
  have b57 := F57.binds (ps := ["script"]) fun _ _ _ _ _ _ us hl => match us, hl with | [_], _ => rfl
  let T : Txt K mg := {
    f_wall := f0
    d_wall := _
    F_wall := F0
    b_wall := b0
    g_wall := PySem.W.mg_of X G a0
    f_BadTable_init := f1
    d_BadTable_init := _
    F_BadTable_init := F1
    b_BadTable_init := b1
    f_is_between := f2
    d_is_between := _
    F_is_between := F2
    b_is_between := b2
    g_is_between := PySem.W.mg_of X G a2
    f_is_number := f3
    d_is_number := _
    F_is_number := F3
    b_is_number := b3
    g_is_number := PySem.W.mg_of X G a3
    f_is_stream := f4
    d_is_stream := _
    F_is_stream := F4
    b_is_stream := b4
    g_is_stream := PySem.W.mg_of X G a4
    f_is_text := f5
    d_is_text := _
    F_is_text := F5
    b_is_text := b5
    g_is_text := PySem.W.mg_of X G a5
    f_is_name := f6
    d_is_name := _
    F_is_name := F6
    b_is_name := b6
    g_is_name := PySem.W.mg_of X G a6
    f_is_value := f7
    d_is_value := _
    F_is_value := F7
    b_is_value := b7
    g_is_value := PySem.W.mg_of X G a7
    f_is_field := f8
    d_is_field := _
    F_is_field := F8
    b_is_field := b8
    g_is_field := PySem.W.mg_of X G a8
    f_is_tuple_of_fields := f9
    d_is_tuple_of_fields := _
    F_is_tuple_of_fields := F9
    b_is_tuple_of_fields := b9
    g_is_tuple_of_fields := PySem.W.mg_of X G a9
    f_is_setting := f10
    d_is_setting := _
    F_is_setting := F10
    b_is_setting := b10
    g_is_setting := PySem.W.mg_of X G a10
    f_are_octets := f11
    d_are_octets := _
    F_are_octets := F11
    b_are_octets := b11
    g_are_octets := PySem.W.mg_of X G a11
    f_check_setting := f12
    d_check_setting := _
    F_check_setting := F12
    b_check_setting := b12
    g_check_setting := PySem.W.mg_of X G a12
    f_check_prefix := f13
    d_check_prefix := _
    F_check_prefix := F13
    b_check_prefix := b13
    g_check_prefix := PySem.W.mg_of X G a13
    f_prefix_bits := f14
    d_prefix_bits := _
    F_prefix_bits := F14
    b_prefix_bits := b14
    g_prefix_bits := PySem.W.mg_of X G a14
    f_number_octets := f15
    d_number_octets := _
    F_number_octets := F15
    b_number_octets := b15
    g_number_octets := PySem.W.mg_of X G a15
    f_string_octets := f16
    d_string_octets := _
    F_string_octets := F16
    b_string_octets := b16
    g_string_octets := PySem.W.mg_of X G a16
    f_value_octets := f17
    d_value_octets := _
    F_value_octets := F17
    b_value_octets := b17
    g_value_octets := PySem.W.mg_of X G a17
    f_is_instruction := f18
    d_is_instruction := _
    F_is_instruction := F18
    b_is_instruction := b18
    g_is_instruction := PySem.W.mg_of X G a18
    f_write_instruction := f19
    d_write_instruction := _
    F_write_instruction := F19
    b_write_instruction := b19
    g_write_instruction := PySem.W.mg_of X G a19
    f_source_octets := f20
    d_source_octets := _
    F_source_octets := F20
    b_source_octets := b20
    g_source_octets := PySem.W.mg_of X G a20
    f_is_answer := f21
    d_is_answer := _
    F_is_answer := F21
    b_is_answer := b21
    g_is_answer := PySem.W.mg_of X G a21
    f_write_answer := f22
    d_write_answer := _
    F_write_answer := F22
    b_write_answer := b22
    g_write_answer := PySem.W.mg_of X G a22
    f_is_line := f23
    d_is_line := _
    F_is_line := F23
    b_is_line := b23
    g_is_line := PySem.W.mg_of X G a23
    f_is_block := f24
    d_is_block := _
    F_is_block := F24
    b_is_block := b24
    g_is_block := PySem.W.mg_of X G a24
    f_write_block := f25
    d_write_block := _
    F_write_block := F25
    b_write_block := b25
    g_write_block := PySem.W.mg_of X G a25
    f_line_octets := f26
    d_line_octets := _
    F_line_octets := F26
    b_line_octets := b26
    g_line_octets := PySem.W.mg_of X G a26
    f_whole_octets := f27
    d_whole_octets := _
    F_whole_octets := F27
    b_whole_octets := b27
    g_whole_octets := PySem.W.mg_of X G a27
    f_named_octets := f28
    d_named_octets := _
    F_named_octets := F28
    b_named_octets := b28
    g_named_octets := PySem.W.mg_of X G a28
    f_run_table := f29
    d_run_table := _
    F_run_table := F29
    b_run_table := b29
    g_run_table := PySem.W.mg_of X G a29
    f_said_field := f30
    d_said_field := _
    F_said_field := F30
    b_said_field := b30
    g_said_field := PySem.W.mg_of X G a30
    f_referred := f31
    d_referred := _
    F_referred := F31
    b_referred := b31
    g_referred := PySem.W.mg_of X G a31
    f_entry_size := f32
    d_entry_size := _
    F_entry_size := F32
    b_entry_size := b32
    g_entry_size := PySem.W.mg_of X G a32
    f_Table_init := f33
    d_Table_init := _
    F_Table_init := F33
    b_Table_init := b33
    f_Table_copied := f34
    d_Table_copied := _
    F_Table_copied := F34
    b_Table_copied := b34
    f_Table_carry_out := f35
    d_Table_carry_out := _
    F_Table_carry_out := F35
    b_Table_carry_out := b35
    f_Table_set_bound := f36
    d_Table_set_bound := _
    F_Table_set_bound := F36
    b_Table_set_bound := b36
    f_Table_inserted := f37
    d_Table_inserted := _
    F_Table_inserted := F37
    b_Table_inserted := b37
    f_Table_has_room := f38
    d_Table_has_room := _
    F_Table_has_room := F38
    b_Table_has_room := b38
    f_Table_leaving := f39
    d_Table_leaving := _
    F_Table_leaving := F39
    b_Table_leaving := b39
    f_Table_drop := f40
    d_Table_drop := _
    F_Table_drop := F40
    b_Table_drop := b40
    f_is_event := f41
    d_is_event := _
    F_is_event := F41
    b_is_event := b41
    g_is_event := PySem.W.mg_of X G a41
    f_is_log := f42
    d_is_log := _
    F_is_log := F42
    b_is_log := b42
    g_is_log := PySem.W.mg_of X G a42
    f_law_spread := f43
    d_law_spread := _
    F_law_spread := F43
    b_law_spread := b43
    g_law_spread := PySem.W.mg_of X G a43
    f_law_open := f44
    d_law_open := _
    F_law_open := F44
    b_law_open := b44
    g_law_open := PySem.W.mg_of X G a44
    f_law_take := f45
    d_law_take := _
    F_law_take := F45
    b_law_take := b45
    g_law_take := PySem.W.mg_of X G a45
    f_law_u_pick := f46
    d_law_u_pick := _
    F_law_u_pick := F46
    b_law_u_pick := b46
    g_law_u_pick := PySem.W.mg_of X G a46
    f_law_u_behind := f47
    d_law_u_behind := _
    F_law_u_behind := F47
    b_law_u_behind := b47
    g_law_u_behind := PySem.W.mg_of X G a47
    f_law_u_octets := f48
    d_law_u_octets := _
    F_law_u_octets := F48
    b_law_u_octets := b48
    g_law_u_octets := PySem.W.mg_of X G a48
    f_law_u_log := f49
    d_law_u_log := _
    F_law_u_log := F49
    b_law_u_log := b49
    g_law_u_log := PySem.W.mg_of X G a49
    f_law_u_setting := f50
    d_law_u_setting := _
    F_law_u_setting := F50
    b_law_u_setting := b50
    g_law_u_setting := PySem.W.mg_of X G a50
    f_law_u_instruction := f51
    d_law_u_instruction := _
    F_law_u_instruction := F51
    b_law_u_instruction := b51
    g_law_u_instruction := PySem.W.mg_of X G a51
    f_law_u_block := f52
    d_law_u_block := _
    F_law_u_block := F52
    b_law_u_block := b52
    g_law_u_block := PySem.W.mg_of X G a52
    f_law_u_events := f53
    d_law_u_events := _
    F_law_u_events := F53
    b_law_u_events := b53
    g_law_u_events := PySem.W.mg_of X G a53
    f_law_u_are_octets := f54
    d_law_u_are_octets := _
    F_law_u_are_octets := F54
    b_law_u_are_octets := b54
    g_law_u_are_octets := PySem.W.mg_of X G a54
    f_law_u_is_event := f55
    d_law_u_is_event := _
    F_law_u_is_event := F55
    b_law_u_is_event := b55
    g_law_u_is_event := PySem.W.mg_of X G a55
    f_law_u_bent := f56
    d_law_u_bent := _
    F_law_u_bent := F56
    b_law_u_bent := b56
    g_law_u_bent := PySem.W.mg_of X G a56
    f_law := fa
    d_law := _
    F_law := F57
    b_law := b57
    g_law := PySem.W.mg_of X G a57
    C_FieldError := C0
    m_FieldError := .type "type"
    B_FieldError := ⟨PySem.W.mg_of X G cC0, ⟨rd0, ga0⟩, in0⟩
    R_FieldError := ⟨rb0, rt0, rc0⟩
    C_NoSetting := C1
    P_NoSetting := ⟨PySem.W.mg_of X G cC1, xC1, kC1, eC1, tC1⟩
    S_NoSetting := ⟨eC1, tC1, uC1⟩
    C_NoValue := C2
    P_NoValue := ⟨PySem.W.mg_of X G cC2, xC2, kC2, eC2, tC2⟩
    S_NoValue := ⟨eC2, tC2, uC2⟩
    C_BadTable := C3
    E_BadTable := ⟨⟨⟨_, _, _, _, _, _, _, _, _, _, _, _, _, _, _, xL3, rv3⟩, sa3, eC3, tC3, kC3⟩, PySem.W.mg_of X G cC3, a1, t1, nb3⟩
    S_BadTable := ⟨eC3, tC3, uC3⟩
    C_Table := C4
    cl_Table := ⟨pg4, hd4, po4, sa4⟩
    g_Table := PySem.W.mg_of X G cC4
    M_Table := ⟨mk4, a33, i33, kC4⟩
    nA_Table_setting := n4_0
    nA_Table_bound := n4_1
    nA_Table_made := n4_2
    nA_Table_kept := n4_3
    m_Table_copied := ⟨a34, i34, k34⟩
    m_Table_carry_out := ⟨a35, i35, k35⟩
    m_Table_set_bound := ⟨a36, i36, k36⟩
    m_Table_inserted := ⟨a37, i37, k37⟩
    m_Table_has_room := ⟨a38, i38, k38⟩
    m_Table_leaving := ⟨a39, i39, k39⟩
    m_Table_drop := ⟨a40, i40, k40⟩
    kw_is_log := ⟨fun s us ws X hl => by obtain ⟨rfl, h⟩ := gW_len (n := 1) hl; match ws, h with | [_], _ => exact .of_eq rfl, gW_rel⟩
    SE_BadTable := PySem.W.exm_ref eC3 sd3 tC3 ss3
    t_NUMBER_MOST := tk0
    g_NUMBER_MOST := PySem.W.mg_of X G v0
    t_STREAM_MOST := tk1
    g_STREAM_MOST := PySem.W.mg_of X G v1
    t_NAME_MOST := tk2
    g_NAME_MOST := PySem.W.mg_of X G v2
    t_VALUE_MOST := tk3
    g_VALUE_MOST := PySem.W.mg_of X G v3
    t_FIXED_MOST := tk4
    g_FIXED_MOST := PySem.W.mg_of X G v4
    t_ROOM_MOST := tk5
    g_ROOM_MOST := PySem.W.mg_of X G v5
    t_WAITING_MOST := tk6
    g_WAITING_MOST := PySem.W.mg_of X G v6
    t_VALUE_PREFIX := tk7
    g_VALUE_PREFIX := PySem.W.mg_of X G v7
    a_CHARACTERS := ad8
    g_CHARACTERS := PySem.W.mg_of X G v8
    CHARACTERS_d := ⟨⟨_, _, w8, e8⟩, q8⟩
    t_LINES_MOST := tk9
    g_LINES_MOST := PySem.W.mg_of X G v9
    t_SIZE_MORE := tk10
    g_SIZE_MORE := PySem.W.mg_of X G v10
    t_EVENTS_MOST := tk11
    g_EVENTS_MOST := PySem.W.mg_of X G v11
    z_all := PySem.W.mg_none_of X G z0
    z_bool := PySem.W.mg_none_of X G z1
    z_enumerate := PySem.W.mg_none_of X G z2
    z_int := PySem.W.mg_none_of X G z3
    z_isinstance := PySem.W.mg_none_of X G z4
    z_len := PySem.W.mg_none_of X G z5
    z_list := PySem.W.mg_none_of X G z6
    z_max := PySem.W.mg_none_of X G z7
    z_ord := PySem.W.mg_none_of X G z8
    z_range := PySem.W.mg_none_of X G z9
    z_repr := PySem.W.mg_none_of X G z10
    z_sorted := PySem.W.mg_none_of X G z11
    z_str := PySem.W.mg_none_of X G z12
    z_sum := PySem.W.mg_none_of X G z13
    z_tuple := PySem.W.mg_none_of X G z14
  }
  exact ⟨PySem.W.fnOf "law" "law" (defArgs s_law) (defBody s_law) (defScope s_law) .none kV57 dc57 pm57 an57 cd57 ct57, fun s v => .of_eq rfl, ok_law T⟩
theorem walk {l : PySem.W.OpenLaw} {q : Program} {loose : List Str} {XP : (Str → Option Value) → Heap → Prop} {YP : World → Heap → Prop} {d : DefRec} {K : Params → PySem.W.Frag} (hn : l.most = some 63) (hdf : d.params.defaults = [])
    (hY : ∀ (w : World) (h : Heap), YP w h → (K w.params).In h)
    (F : ∀ (w : World) (mg : Str → Option Value) (fa : Addr) (h : Heap), (K w.params).In h → h.Ns mainGlobals mg → mg d.name = some (.ref fa) →
      ∃ fd : FuncData, (∀ (s : Shared) (u : Value), BindsTo s fd ⟨[u], []⟩ [("script", u)]) ∧ TopOk l.prog w (K w.params) mg 10 fa fd ["script"] (spLaw (K w.params))) :
    PySem.W.WalkO q loose XP YP l.row.toRowW d [] (fun f vs => PySem.call f vs) :=
  walk_top (n := 63) (k := 10) (x := "script") (sp := fun w => spLaw (K w.params)) hn (by decide) hdf ⟨rfl, by decide, by decide⟩ hY F fun _ _ a ns hl _ hS => ⟨a, ns, rfl, hS, hl, fun _ => rfl⟩
end Fld
open PySem PySem.W PyProof.Rows
set_option maxRecDepth 100000 in
set_option maxHeartbeats 0 in
theorem PySem.Challenge.cw_fieldtable_k63_logs_known_holds : PySem.Challenge.rw_fieldtable_k63_logs_known.Holds := by
  w_on; o_law; k_head; (case hw => w_witness2)
  k_fill
  refine Fld.walk (l := PySem.Challenge.rw_fieldtable_k63_logs_known) rfl rfl (fun w h Y => PySem.W.kIn_of Y) ?F
  case F =>
    intro w mg fa h KX G hmg
    refine' Fld.all_mk KX G hmg ?cC0 ?rd0 ?ga0 ?in0 ?rb0 ?rt0 ?rc0 ?cC1 ?kC1 ?eC1 ?tC1 ?uC1 ?xC1 ?cC2 ?kC2 ?eC2 ?tC2 ?uC2 ?xC2 ?cC3 ?kC3 ?eC3 ?tC3 ?uC3 ?xL3 ?rv3 ?sa3 ?nb3 ?sd3 ?ss3 ?cC4 ?pg4 ?hd4 ?po4 ?sa4 ?mk4 ?kC4 ?n4_0 ?n4_1 ?n4_2 ?n4_3 ?a0 ?l0 ?c0 ?k0 ?a1 ?l1 ?c1 ?k1 ?i1 ?t1 ?a2 ?l2 ?c2 ?k2 ?a3 ?l3 ?c3 ?k3 ?a4 ?l4 ?c4 ?k4 ?a5 ?l5 ?c5 ?k5 ?a6 ?l6 ?c6 ?k6 ?a7 ?l7 ?c7 ?k7 ?a8 ?l8 ?c8 ?k8 ?a9 ?l9 ?c9 ?k9 ?a10 ?l10 ?c10 ?k10 ?a11 ?l11 ?c11 ?k11 ?a12 ?l12 ?c12 ?k12 ?a13 ?l13 ?c13 ?k13 ?a14 ?l14 ?c14 ?k14 ?a15 ?l15 ?c15 ?k15 ?a16 ?l16 ?c16 ?k16 ?a17 ?l17 ?c17 ?k17 ?a18 ?l18 ?c18 ?k18 ?a19 ?l19 ?c19 ?k19 ?a20 ?l20 ?c20 ?k20 ?a21 ?l21 ?c21 ?k21 ?a22 ?l22 ?c22 ?k22 ?a23 ?l23 ?c23 ?k23 ?a24 ?l24 ?c24 ?k24 ?a25 ?l25 ?c25 ?k25 ?a26 ?l26 ?c26 ?k26 ?a27 ?l27 ?c27 ?k27 ?a28 ?l28 ?c28 ?k28 ?a29 ?l29 ?c29 ?k29 ?a30 ?l30 ?c30 ?k30 ?a31 ?l31 ?c31 ?k31 ?a32 ?l32 ?c32 ?k32 ?a33 ?l33 ?c33 ?k33 ?i33 ?t33 ?a34 ?l34 ?c34 ?k34 ?i34 ?t34 ?a35 ?l35 ?c35 ?k35 ?i35 ?t35 ?a36 ?l36 ?c36 ?k36 ?i36 ?t36 ?a37 ?l37 ?c37 ?k37 ?i37 ?t37 ?a38 ?l38 ?c38 ?k38 ?i38 ?t38 ?a39 ?l39 ?c39 ?k39 ?i39 ?t39 ?a40 ?l40 ?c40 ?k40 ?i40 ?t40 ?a41 ?l41 ?c41 ?k41 ?a42 ?l42 ?c42 ?k42 ?a43 ?l43 ?c43 ?k43 ?a44 ?l44 ?c44 ?k44 ?a45 ?l45 ?c45 ?k45 ?a46 ?l46 ?c46 ?k46 ?a47 ?l47 ?c47 ?k47 ?a48 ?l48 ?c48 ?k48 ?a49 ?l49 ?c49 ?k49 ?a50 ?l50 ?c50 ?k50 ?a51 ?l51 ?c51 ?k51 ?a52 ?l52 ?c52 ?k52 ?a53 ?l53 ?c53 ?k53 ?a54 ?l54 ?c54 ?k54 ?a55 ?l55 ?c55 ?k55 ?a56 ?l56 ?c56 ?k56 ?a57 ?l57 ?c57 ?k57 ?v0 ?v1 ?v2 ?v3 ?v4 ?v5 ?v6 ?v7 ?v8 ?w8 ?e8 ?q8 ?v9 ?v10 ?v11 ?z0 ?z1 ?z2 ?z3 ?z4 ?z5 ?z6 ?z7 ?z8 ?z9 ?z10 ?z11 ?z12 ?z13 ?z14
    (case cC0 => k_is)
    (case rd0 => k_is)
    (case ga0 => k_is)
    (case in0 => k_is)
    (case rb0 => k_is)
    (case rt0 => k_is)
    (case rc0 => k_is)
    (case cC1 => k_is)
    (case kC1 => k_is)
    (case eC1 => k_is)
    (case tC1 => k_is)
    (case uC1 => k_is)
    (case xC1 => k_exc)
    (case cC2 => k_is)
    (case kC2 => k_is)
    (case eC2 => k_is)
    (case tC2 => k_is)
    (case uC2 => k_is)
    (case xC2 => k_exc)
    (case cC3 => k_is)
    (case kC3 => k_is)
    (case eC3 => k_is)
    (case tC3 => k_is)
    (case uC3 => k_is)
    (case xL3 => k_is)
    (case rv3 => first | rfl | decide +kernel)
    (case sa3 => k_is)
    (case nb3 => k_is)
    (case sd3 => k_is)
    (case ss3 => k_is)
    (case cC4 => k_is)
    (case pg4 => k_is)
    (case hd4 => k_is)
    (case po4 => k_is)
    (case sa4 => k_is)
    (case mk4 => k_is)
    (case kC4 => k_is)
    (case n4_0 => k_is)
    (case n4_1 => k_is)
    (case n4_2 => k_is)
    (case n4_3 => k_is)
    (case a0 => k_is)
    (case l0 => k_is)
    (case c0 => k_is)
    (case k0 => k_is)
    (case a1 => k_is)
    (case l1 => k_is)
    (case c1 => k_is)
    (case k1 => k_is)
    (case i1 => k_is)
    (case t1 => k_is)
    (case a2 => k_is)
    (case l2 => k_is)
    (case c2 => k_is)
    (case k2 => k_is)
    (case a3 => k_is)
    (case l3 => k_is)
    (case c3 => k_is)
    (case k3 => k_is)
    (case a4 => k_is)
    (case l4 => k_is)
    (case c4 => k_is)
    (case k4 => k_is)
    (case a5 => k_is)
    (case l5 => k_is)
    (case c5 => k_is)
    (case k5 => k_is)
    (case a6 => k_is)
    (case l6 => k_is)
    (case c6 => k_is)
    (case k6 => k_is)
    (case a7 => k_is)
    (case l7 => k_is)
    (case c7 => k_is)
    (case k7 => k_is)
    (case a8 => k_is)
    (case l8 => k_is)
    (case c8 => k_is)
    (case k8 => k_is)
    (case a9 => k_is)
    (case l9 => k_is)
    (case c9 => k_is)
    (case k9 => k_is)
    (case a10 => k_is)
    (case l10 => k_is)
    (case c10 => k_is)
    (case k10 => k_is)
    (case a11 => k_is)
    (case l11 => k_is)
    (case c11 => k_is)
    (case k11 => k_is)
    (case a12 => k_is)
    (case l12 => k_is)
    (case c12 => k_is)
    (case k12 => k_is)
    (case a13 => k_is)
    (case l13 => k_is)
    (case c13 => k_is)
    (case k13 => k_is)
    (case a14 => k_is)
    (case l14 => k_is)
    (case c14 => k_is)
    (case k14 => k_is)
    (case a15 => k_is)
    (case l15 => k_is)
    (case c15 => k_is)
    (case k15 => k_is)
    (case a16 => k_is)
    (case l16 => k_is)
    (case c16 => k_is)
    (case k16 => k_is)
    (case a17 => k_is)
    (case l17 => k_is)
    (case c17 => k_is)
    (case k17 => k_is)
    (case a18 => k_is)
    (case l18 => k_is)
    (case c18 => k_is)
    (case k18 => k_is)
    (case a19 => k_is)
    (case l19 => k_is)
    (case c19 => k_is)
    (case k19 => k_is)
    (case a20 => k_is)
    (case l20 => k_is)
    (case c20 => k_is)
    (case k20 => k_is)
    (case a21 => k_is)
    (case l21 => k_is)
    (case c21 => k_is)
    (case k21 => k_is)
    (case a22 => k_is)
    (case l22 => k_is)
    (case c22 => k_is)
    (case k22 => k_is)
    (case a23 => k_is)
    (case l23 => k_is)
    (case c23 => k_is)
    (case k23 => k_is)
    (case a24 => k_is)
    (case l24 => k_is)
    (case c24 => k_is)
    (case k24 => k_is)
    (case a25 => k_is)
    (case l25 => k_is)
    (case c25 => k_is)
    (case k25 => k_is)
    (case a26 => k_is)
    (case l26 => k_is)
    (case c26 => k_is)
    (case k26 => k_is)
    (case a27 => k_is)
    (case l27 => k_is)
    (case c27 => k_is)
    (case k27 => k_is)
    (case a28 => k_is)
    (case l28 => k_is)
    (case c28 => k_is)
    (case k28 => k_is)
    (case a29 => k_is)
    (case l29 => k_is)
    (case c29 => k_is)
    (case k29 => k_is)
    (case a30 => k_is)
    (case l30 => k_is)
    (case c30 => k_is)
    (case k30 => k_is)
    (case a31 => k_is)
    (case l31 => k_is)
    (case c31 => k_is)
    (case k31 => k_is)
    (case a32 => k_is)
    (case l32 => k_is)
    (case c32 => k_is)
    (case k32 => k_is)
    (case a33 => k_is)
    (case l33 => k_is)
    (case c33 => k_is)
    (case k33 => k_is)
    (case i33 => k_is)
    (case t33 => k_is)
    (case a34 => k_is)
    (case l34 => k_is)
    (case c34 => k_is)
    (case k34 => k_is)
    (case i34 => k_is)
    (case t34 => k_is)
    (case a35 => k_is)
    (case l35 => k_is)
    (case c35 => k_is)
    (case k35 => k_is)
    (case i35 => k_is)
    (case t35 => k_is)
    (case a36 => k_is)
    (case l36 => k_is)
    (case c36 => k_is)
    (case k36 => k_is)
    (case i36 => k_is)
    (case t36 => k_is)
    (case a37 => k_is)
    (case l37 => k_is)
    (case c37 => k_is)
    (case k37 => k_is)
    (case i37 => k_is)
    (case t37 => k_is)
    (case a38 => k_is)
    (case l38 => k_is)
    (case c38 => k_is)
    (case k38 => k_is)
    (case i38 => k_is)
    (case t38 => k_is)
    (case a39 => k_is)
    (case l39 => k_is)
    (case c39 => k_is)
    (case k39 => k_is)
    (case i39 => k_is)
    (case t39 => k_is)
    (case a40 => k_is)
    (case l40 => k_is)
    (case c40 => k_is)
    (case k40 => k_is)
    (case i40 => k_is)
    (case t40 => k_is)
    (case a41 => k_is)
    (case l41 => k_is)
    (case c41 => k_is)
    (case k41 => k_is)
    (case a42 => k_is)
    (case l42 => k_is)
    (case c42 => k_is)
    (case k42 => k_is)
    (case a43 => k_is)
    (case l43 => k_is)
    (case c43 => k_is)
    (case k43 => k_is)
    (case a44 => k_is)
    (case l44 => k_is)
    (case c44 => k_is)
    (case k44 => k_is)
    (case a45 => k_is)
    (case l45 => k_is)
    (case c45 => k_is)
    (case k45 => k_is)
    (case a46 => k_is)
    (case l46 => k_is)
    (case c46 => k_is)
    (case k46 => k_is)
    (case a47 => k_is)
    (case l47 => k_is)
    (case c47 => k_is)
    (case k47 => k_is)
    (case a48 => k_is)
    (case l48 => k_is)
    (case c48 => k_is)
    (case k48 => k_is)
    (case a49 => k_is)
    (case l49 => k_is)
    (case c49 => k_is)
    (case k49 => k_is)
    (case a50 => k_is)
    (case l50 => k_is)
    (case c50 => k_is)
    (case k50 => k_is)
    (case a51 => k_is)
    (case l51 => k_is)
    (case c51 => k_is)
    (case k51 => k_is)
    (case a52 => k_is)
    (case l52 => k_is)
    (case c52 => k_is)
    (case k52 => k_is)
    (case a53 => k_is)
    (case l53 => k_is)
    (case c53 => k_is)
    (case k53 => k_is)
    (case a54 => k_is)
    (case l54 => k_is)
    (case c54 => k_is)
    (case k54 => k_is)
    (case a55 => k_is)
    (case l55 => k_is)
    (case c55 => k_is)
    (case k55 => k_is)
    (case a56 => k_is)
    (case l56 => k_is)
    (case c56 => k_is)
    (case k56 => k_is)
    (case a57 => k_is)
    (case l57 => k_is)
    (case c57 => k_is)
    (case k57 => k_is)
    (case v0 => k_is)
    (case v1 => k_is)
    (case v2 => k_is)
    (case v3 => k_is)
    (case v4 => k_is)
    (case v5 => k_is)
    (case v6 => k_is)
    (case v7 => k_is)
    (case v8 => k_is)
    (case w8 => k_is)
    (case e8 => repeat (first | exact Paired.nil | refine Paired.cons ⟨⟨_, rfl⟩, rfl, ⟨_, rfl⟩⟩ ?_))
    (case q8 => first | rfl | decide +kernel | k_is)
    (case v9 => k_is)
    (case v10 => k_is)
    (case v11 => k_is)
    (case z0 => k_is)
    (case z1 => k_is)
    (case z2 => k_is)
    (case z3 => k_is)
    (case z4 => k_is)
    (case z5 => k_is)
    (case z6 => k_is)
    (case z7 => k_is)
    (case z8 => k_is)
    (case z9 => k_is)
    (case z10 => k_is)
    (case z11 => k_is)
    (case z12 => k_is)
    (case z13 => k_is)
    (case z14 => k_is)
