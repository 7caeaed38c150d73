import PyProof.Rows.All
import Wide.All
import OpenK.AllK
import Wide.FinOn
import PyProof.EqAt
import PyProof.EqKinds
import PyProof.TupleCall
import HandS.ForExc
import HandS.Comp
import HandS.Iter
import HandS.Gcd
import HandS.Wide
import HandS.Evl
import HandS.Defaults
import HandS.ExcIs
import HandS.TupAny
import HandS.TupMul
import HandS.Walk
import HandS.Rev
import HandS.TupAny
import HandS.TupMul
import HandS.Style
import HandS.IsInst
import PyProof.ReprRoads
import PyProof.ReprLen
import PyProof.CallFns
import PyProof.Rows.RegStrFacts
import KE.GoesMore
import HandS.CallLocal
import PySem.Challenge.RW_threadworth_k07_whole_falling_products
set_option Elab.async false
set_option linter.all false
set_option maxRecDepth 100000
set_option maxHeartbeats 4000000
namespace T
open PySem PySem.Spec PyProof.Rows L2
/-! ### the mathematics of worlds and numbers -/
def primes : List Int := [2, 3, 5, 7, 11, 13, 17, 19, 23, 29, 31]
def isW (p d : Int) : Bool := if p = 0 then (if -20 ≤ d then decide (d ≤ 20) else false) else (if inV (.int p) (primes.map V.int) = true then (if 0 ≤ d then decide (d < p) else false) else false)
theorem inV_ints {p : Int} : ∀ {l : List Int}, inV (.int p) (l.map V.int) = true → p ∈ l
  | [], h => by cases h
  | x :: l, h => by
    have h1 : ((eqV (.int x) (.int p)) || inV (.int p) (l.map V.int)) = true := h
    rcases (Bool.or_eq_true _ _).mp h1 with h | h
    · have : x = p := of_decide_eq_true (show decide (x = p) = true by simpa [eqV] using h)
      rw [this]
      exact List.mem_cons_self
    · exact List.mem_cons_of_mem _ (inV_ints h)
theorem isW_prime {p d : Int} (h : isW p d = true) (hp : p ≠ 0) : p ∈ primes ∧ 0 ≤ d ∧ d < p := by
  unfold isW at h
  rw [if_neg hp] at h
  by_cases e : inV (.int p) (primes.map V.int) = true
  · rw [if_pos e] at h
    by_cases e2 : 0 ≤ d
    · rw [if_pos e2] at h
      exact ⟨inV_ints e, e2, of_decide_eq_true h⟩
    · rw [if_neg e2] at h
      cases h
  · rw [if_neg e] at h
    cases h
theorem prime_pos {p : Int} (h : p ∈ primes) : 2 ≤ p ∧ p ≤ 31 := by
  simp only [primes, List.mem_cons, List.not_mem_nil, or_false] at h
  omega
theorem inv_exN : ∀ p ∈ [2, 3, 5, 7, 11, 13, 17, 19, 23, 29, 31], ∀ r, r < p → r ≠ 0 → ∃ k, k < p ∧ (k * r) % p = 1 := by decide +kernel
theorem inv_ex {p : Int} (hp : p ∈ primes) {r : Int} (h0 : 0 ≤ r) (h1 : r < p) (hr : r ≠ 0) : ∃ k : Int, 1 ≤ k ∧ k < p ∧ k * r % p = 1 := by
  obtain ⟨n, rfl⟩ := Int.eq_ofNat_of_zero_le (show 0 ≤ p by have := prime_pos hp; omega)
  obtain ⟨m, rfl⟩ := Int.eq_ofNat_of_zero_le h0
  have hn : n ∈ [2, 3, 5, 7, 11, 13, 17, 19, 23, 29, 31] := by
    simp only [primes, List.mem_cons, List.not_mem_nil, or_false] at hp ⊢
    omega
  obtain ⟨k, hk, e⟩ := inv_exN n hn m (by omega) (by omega)
  refine ⟨(k : Int), ?_, by omega, ?_⟩
  · rcases Nat.eq_zero_or_pos k with z | z
    · subst z
      rw [Nat.zero_mul, Nat.zero_mod] at e
      cases e
    · omega
  · have : ((k * m % n : Nat) : Int) = ((1 : Nat) : Int) := by rw [e]
    rw [← Int.natCast_mul, ← Int.natCast_emod, e]
    rfl
/-- lowest terms -/
def gI (a b : Int) : Int := ((Nat.gcd a.natAbs b.natAbs : Nat) : Int)
def low (a b : Int) : Int × Int := if b < 0 then ((-a) / gI a b, (-b) / gI a b) else (a / gI a b, b / gI a b)
theorem gI_pos {a b : Int} (hb : b ≠ 0) : 0 < gI a b := by
  have : 0 < Nat.gcd a.natAbs b.natAbs := Nat.gcd_pos_of_pos_right _ (by omega)
  unfold gI
  omega
theorem gI_le {a b : Int} (hb : b ≠ 0) : gI a b ≤ b.natAbs := by
  have := Nat.gcd_le_right (m := a.natAbs) (n := b.natAbs) (by omega)
  unfold gI
  omega
theorem fdiv_negg (a g : Int) (hg : 0 ≤ g) : a.fdiv (-g) = (-a) / g := by
  rw [← Int.fdiv_eq_ediv_of_nonneg _ hg, ← Int.neg_fdiv_neg (-a) g, Int.neg_neg]
/-- the number a / b -/
def bad (p b : Int) : Prop := b = 0 ∨ (0 < p ∧ b % p = 0)
def IsNum (p a b x y : Int) : Prop := (0 < p ∧ y = 1 ∧ 0 ≤ x ∧ x < p ∧ (x * b - a) % p = 0) ∨ (¬ 0 < p ∧ (x, y) = low a b)
theorem inv_solves {p a b k : Int} (hp : 0 < p) (e : k * (b % p) % p = 1) (h1 : 1 < p) : ((a * k % p) * b - a) % p = 0 := by
  have e1 : (k * b) % p = 1 := by
    rw [Int.mul_emod, Int.emod_emod_of_dvd _ (Int.dvd_refl p), ← Int.mul_emod] at e
    exact e
  have d1 : p ∣ k * b - 1 := by
    apply Int.dvd_of_emod_eq_zero
    rw [Int.sub_emod, e1, Int.emod_eq_of_lt (by omega) h1]
    simp
  have d2 : p ∣ a * k - a * k % p := Int.dvd_self_sub_emod
  apply Int.emod_eq_zero_of_dvd
  have : (a * k % p) * b - a = a * (k * b - 1) - (a * k - a * k % p) * b := by
    rw [Int.mul_sub, Int.sub_mul, Int.mul_assoc]
    omega
  rw [this]
  exact Int.dvd_sub (Int.dvd_mul_of_dvd_right d1) (Int.dvd_mul_of_dvd_left d2)
theorem num_unique {p a b x y x' y' : Int} (hp : p = 0 ∨ p ∈ primes) (hb : ¬ bad p b) (h : IsNum p a b x y) (h' : IsNum p a b x' y') : x = x' ∧ y = y' := by
  rcases h with ⟨h0, e1, l1, u1, m1⟩ | ⟨h0, e1⟩
  · rcases h' with ⟨_, e2, l2, u2, m2⟩ | ⟨h0', _⟩
    · refine ⟨?_, e1.trans e2.symm⟩
      rcases hp with rfl | hp
      · omega
      · have hp2 := prime_pos hp
        have hbp : b % p ≠ 0 := fun z => hb (.inr ⟨h0, z⟩)
        obtain ⟨k, k1, k2, ek⟩ := inv_ex hp (Int.emod_nonneg b (by omega)) (Int.emod_lt_of_pos b h0) hbp
        have e1 : (k * b) % p = 1 := by
          rw [Int.mul_emod, Int.emod_emod_of_dvd _ (Int.dvd_refl p), ← Int.mul_emod] at ek
          exact ek
        have d1 : p ∣ k * b - 1 := by
          apply Int.dvd_of_emod_eq_zero
          rw [Int.sub_emod, e1, Int.emod_eq_of_lt (show (0:Int) ≤ 1 by omega) (show (1:Int) < p by omega)]
          simp
        have d2 : p ∣ (x * b - a) - (x' * b - a) := Int.dvd_sub (Int.dvd_of_emod_eq_zero m1) (Int.dvd_of_emod_eq_zero m2)
        have d3 : p ∣ x - x' := by
          have e : x - x' = k * ((x * b - a) - (x' * b - a)) - (x - x') * (k * b - 1) := by
            have e3 : (x * b - a) - (x' * b - a) = (x - x') * b := by
              rw [Int.sub_mul]
              omega
            rw [e3, Int.mul_sub, Int.mul_one, ← Int.mul_assoc, Int.mul_comm k (x - x'), Int.mul_assoc]
            omega
          rw [e]
          exact Int.dvd_sub (Int.dvd_mul_of_dvd_right d2) (Int.dvd_mul_of_dvd_right d1)
        obtain ⟨c, ec⟩ := d3
        have hc : c = 0 := by
          rcases Int.lt_trichotomy c 0 with z | z | z
          · have : p * c ≤ p * (-1) := Int.mul_le_mul_of_nonneg_left (by omega) (by omega)
            omega
          · exact z
          · have : p * 1 ≤ p * c := Int.mul_le_mul_of_nonneg_left (by omega) (by omega)
            omega
        rw [hc, Int.mul_zero] at ec
        omega
    · exact absurd h0 h0'
  · rcases h' with ⟨h0', _⟩ | ⟨_, e2⟩
    · exact absurd h0' h0
    · have := e1.trans e2.symm
      exact ⟨congrArg Prod.fst this, congrArg Prod.snd this⟩
end T

/-! ### defs that are called where nothing is being shown (no repr is under way): what the law's own def may know -/
namespace L2
open PySem PySem.Spec PyProof.Rows
structure FnG (P : Program) (w : World) (K : PySem.W.Frag) (mg : Str → Option Value) (base : Heap) (k : Nat) (f : Addr) (fd : FuncData) (ps : List Str) (sp : Sp) : Prop where
  len : ∀ vs H Q E, sp vs H Q E → vs.length = ps.length
  run : ∀ (A : Around) (outer : List Env) (s : Shared) (H : Hp) (args : Args) (us : List Value) (vs : List V) (Q : VK) (E : XK), A.guards = some [] → Room k A → Env0 P w K mg base A outer s H →
    BindsTo s fd args (ps.zip us) → Vals vs us → sp vs H Q E → codeAny (model P w) A (.call (.ref f) args) (CR CX0 outer P w H s Q E) s
theorem CE_of {P : Program} {w : World} {K : PySem.W.Frag} {mg : Str → Option Value} {base : Heap} {N : List Str} {qual : Str} {scope : Scope} {f : Addr} {cdv : Value} {A : Around} {outer : List Env} {s s' : Shared} {H H' : Hp} {E : XK} {Q : VK} {σ' : St} {v : V} {u : Value}
    (J : Inv (cxOf CX0 P w K mg base N qual scope f cdv A outer s H E) [] σ' H' s') (rv : RelV v u) (q : Q v H') : CE outer P w H s Q u s' := ⟨v, H', J.os, J.bare, J.base, J.hok, rv, q⟩
theorem Fun.okG {P : Program} {w : World} {K : PySem.W.Frag} {mg : Str → Option Value} {base : Heap} {x qual : Str} {st : Stmt} {f : Addr} {fd : FuncData} {N ps : List Str} {k : Nat} {sp : Sp} (F : Fun K x qual st f fd) (S : FnScope N ps (defScope st))
    (len : ∀ vs H Q E, sp vs H Q E → vs.length = ps.length)
    (hbody : ∀ (cdv : Value) (A : Around) (outer : List Env) (s : Shared) (H : Hp) (vs : List V) (Q : VK) (E : XK), (A.deeper (envOfC qual (defScope st) s.heap.objs.size f cdv)).guards = some [] →
      Room k (A.deeper (envOfC qual (defScope st) s.heap.objs.size f cdv)) → sp vs H Q E →
      ∃ t, PSs (cxOf CX0 P w K mg base N qual (defScope st) f cdv A outer s H E).nox (defBody st) t ∧ t { nx := fun _ H' => Q .non H', rt := Q } (start N vs) H) : FnG P w K mg base (k + 1) f fd ps sp := by
  obtain ⟨oc, od, kV, doc, pm, an, cdv, ct, osl, rfl, lk, hcd⟩ := F.ex
  refine ⟨len, fun A outer s H args us vs Q E hgu hr e0 hb r hsp => ?_⟩
  have keep := fun b o (e : base.get? b = some o) => (e0.bs b o e).1
  have inK : K.In s.heap := e0.mod.kin.keeps keep
  refine codeAny_call_function hr.depth (inK _ _ lk) rfl S.co S.gen rfl (PySem.W.codeRec_of inK hcd) (hb _ _ _ _ ?_)
  refine wpAny_newFunctionEnv_cells S.kind (fun ⟨n, v⟩ hy => ?_) fun env he s1 xx => ?_
  · exact (S.par n (List.of_mem_zip hy).1).elim .inl fun q => .inr ⟨q, PySem.W.cellsFrom_some _ _ _ (.inl q)⟩
  · subst he
    refine ⟨(e0.mod.nolimit.keeps keep).keeps xx.toInCall.keep, codeAny_func ?_⟩
    obtain ⟨t, ht, hq⟩ := hbody cdv A outer s H vs Q E hgu (hr.deeper _) hsp
    have I := inv_start (CX := CX0) (E := E) S hr.hd e0 (len _ _ _ _ hsp) r xx
    refine wpAny_mono (ht.nox.run [] s1 _ H _ I hq) (fun fl s' hs => ?_) fun e s' hs => hs
    rcases fl with _ | _ | _ | u
    · obtain ⟨σ', H', J, q⟩ := hs
      exact CE_of (v := V.non) (u := Value.none) J rfl q
    · exact hs.elim fun _ z => z.elim fun _ z => z.2.elim
    · exact hs.elim fun _ z => z.elim fun _ z => z.2.elim
    · obtain ⟨v, σ', H', J, rv, q⟩ := hs
      exact CE_of J rv q
end L2

namespace L2
open PySem PySem.Spec PyProof.Rows
/-- the law's def, called by the claim's caller: nothing is being shown there -/
theorem goes_at {P : Program} {w : World} {K : PySem.W.Frag} {mg mb : Str → Option Value} {k : Nat} {fa a : Addr} {fd : FuncData} {x : Str} {sp : Sp} {t : Shared} {vs : List Value} {xs : List V} {H : Hp}
    (KX : K.In t.heap) (hns : t.heap.Ns mainGlobals mg) (hb : t.heap.Ns builtinsNs mb) (hbb : ∀ y : Str, y ≠ "__name__" → mb y = bootBuiltins y) (hlim : t.heap.NoLimit) (hg : t.gens = #[])
    (ha : t.heap.get? a = some { cls := .type "list", data := .seq vs.toArray }) (hr : Room k callerA)
    (F : ∀ base : Heap, K.In base → base.Ns mainGlobals mg → FnG P w K mg base k fa fd [x] sp) (hbind : ∀ (s : Shared) (u : Value), BindsTo s fd ⟨[u], []⟩ [(x, u)])
    (hO : Only H) (hsp : sp [.ref a] H (fun v _ => v = .bl true) fun _ _ _ => False) (hok : HOk P w H t.heap) (hA : ∀ b, H b ≠ none → b = a) (hK : H a ≠ none → K.lookup a = none) :
    codeAny (model P w) callerA (.call (.ref fa) ⟨[.ref a], []⟩) (fun r s' => r = .ok (.ret (.bool true)) ∧ OldK t.heap s'.heap ∧ s'.os = t.os ∧ AllBare s'.gens) t := by
  have free : ∀ {b : Addr}, (H b ≠ none → False) → H b = none := fun {b} z => by
    rcases e : H b with _ | u
    · rfl
    · exact (z (by rw [e]; exact fun q => nomatch q)).elim
  have ns : ∀ {b : Addr} {m : Str → Option Value}, t.heap.Ns b m → (hidT t.heap H).Ns b m := fun {b m} z => by
    obtain ⟨o, es, ep, e, d, r⟩ := z
    refine ⟨o, es, ep, hidT_get e (free fun z => ?_), d, r⟩
    rw [hA b z, ha] at e
    cases e
    cases d
  have inB : K.In (hidT t.heap H) := fun b o e => hidT_get (KX b o e) (free fun z => by
    have eb := hA b z
    rw [eb] at z e
    rw [hK z] at e
    cases e)
  obtain ⟨mc, l1, l2⟩ := hlim
  have env : Env0 P w K mg (hidT t.heap H) callerA [] t H := ⟨rfl, ⟨inB, ns hns, ⟨mb, ns hb, hbb⟩, ⟨mc, ns l1, l2⟩⟩, fun b o e => of_hidT e, Nat.le_of_eq (hidT_size _ _), trivial, fun b hb => (nomatch hb), hok, .of_eq hg⟩
  refine codeAny_mono ((F _ inB (ns hns)).run callerA [] t H _ [.ref a] [.ref a] _ _ rfl hr env (hbind t (.ref a)) (.cons rfl .nil) hsp) fun r s' h => ?_
  rcases r with e | fl
  · exact (show False from h).elim
  · rcases fl with _ | _ | _ | u
    · exact (show False from h).elim
    · exact (show False from h).elim
    · exact (show False from h).elim
    · obtain ⟨v, H', os, bare, un, hok', rv, q⟩ := h
      obtain rfl : v = .bl true := q
      obtain rfl : u = Value.bool true := rv
      refine ⟨rfl, OldK.of_keep fun b o e => ?_, os, bare⟩
      rcases hO b with z | ⟨ob, ys, z⟩
      · exact un.keep b o e z (fun z => nomatch z) (fun z => nomatch z)
      · have e1 := (hok b _ z).1
        rw [e] at e1
        rw [Option.some.inj e1]
        exact (hok' b _ (un.frzs b ob _ z)).1
theorem walk_ofG {l : PySem.W.OpenLaw} {n k : Nat} {q : Program} {loose : List Str} {XP : (Str → Option Value) → Heap → Prop} {YP : World → Heap → Prop} {d : DefRec} {K : Params → PySem.W.Frag} {sp : World → Sp} {x : Str}
    (hn : l.most = some n) (hn2 : n ≤ sizeLine) (hdf : d.params.defaults = []) (hr : Room k callerA) (hY : ∀ (w : World) (h : Heap), YP w h → (K w.params).In h)
    (F : ∀ (w : World) (mg : Str → Option Value) (fa : Addr) (h : Heap), (K w.params).In h → h.Ns mainGlobals mg → mg d.name = some (.ref fa) →
      ∃ fd : FuncData, (∀ (s : Shared) (u : Value), BindsTo s fd ⟨[u], []⟩ [(x, u)]) ∧ ∀ base : Heap, (K w.params).In base → base.Ns mainGlobals mg → FnG l.prog w (K w.params) mg base k fa fd [x] (sp w))
    (hsp : ∀ (w : World) (H : Hp) (a : Addr) (ns : List Int), ns.length ≤ n → SqL (K w.params) H a (ns.map V.int) → sp w [.ref a] H (fun v _ => v = .bl true) fun _ _ _ => False) :
    PySem.W.WalkO q loose XP YP l.row.toRowW d [] (fun f vs => PySem.call f vs) := by
  refine Att.attach_call hn hdf fun w s₀ t mg mb fa o pm cd doc a vs ns G Y ho hd hcd hmg hobj hints hlen hg => ?_
  have KX := hY w _ Y
  obtain ⟨fd, hb, hF⟩ := F w mg fa _ KX G.T.g hmg
  have rv : Vals (ns.map V.int) vs := vals_ints hints
  have lv := hints.length
  rcases hk : (K w.params).lookup a with _ | oa
  · refine goes_at (xs := ns.map V.int) (H := fun b => if b = a then some (.frz { cls := .type "list", data := .seq vs.toArray } (.lst (ns.map V.int))) else none) KX G.T.g G.T.b G.T.builtins G.T.nolimit hg hobj hr hF hb
      (fun b => ?_) (hsp w _ a ns hlen (.inl (.inr ⟨_, if_pos rfl⟩))) (fun b u z => ?_) (fun b z => Decidable.byContradiction fun c => z (if_neg c)) fun _ => hk
    · by_cases c : b = a
      · exact .inr ⟨_, _, if_pos c⟩
      · exact .inl (if_neg c)
    · by_cases c : b = a
      · have z' := (if_pos c).symm.trans z
        cases z'
        subst c
        exact ⟨hobj, by rw [List.length_map]; omega, vs, _, rv, hobj⟩
      · have z' := (if_neg c).symm.trans z
        cases z'
  · have e := (KX a oa hk).symm.trans hobj
    cases e
    exact goes_at (xs := ns.map V.int) (H := fun _ => none) KX G.T.g G.T.b G.T.builtins G.T.nolimit hg hobj hr hF hb (fun _ => .inl rfl)
      (hsp w _ a ns hlen (.inr ⟨_, vs.toArray, _, hk, rfl, rfl, rfl, by rw [List.size_toArray]; omega, rv⟩)) (fun b u z => nomatch z) (fun b z => (z rfl).elim) fun z => (z rfl).elim
end L2

namespace L2
open PySem PySem.Spec PyProof.Rows
/-! ### repr(data), where nothing is being shown -/
mutual
def wt : PyData → Nat
  | .none => 4
  | .bool _ => 5
  | .int _ => 1921
  | .str x => (reprText x).length
  | .list xs => wtAll xs + 3
  | .tuple xs => wtAll xs + 3
  | .dict _ => 0
def wtAll : List PyData → Nat
  | [] => 0
  | x :: xs => wt x + 2 + wtAll xs
end
mutual
theorem shown_wt : ∀ d : PyData, d.showable = true → d.hasDict = false → d.shown.length ≤ wt d
  | .none, _, _ => by simp only [PyData.shown, wt]; decide +kernel
  | .bool b, _, _ => by cases b <;> simp only [PyData.shown, wt] <;> decide +kernel
  | .int i, h, _ => by
    simp only [PyData.shown, wt]
    exact int_text_len_1921 (by simpa [PyData.showable] using h)
  | .str x, _, _ => by simp only [PyData.shown, wt]; exact Nat.le_refl _
  | .list xs, h, h2 => by
    simp only [PyData.showable] at h
    simp only [PyData.hasDict] at h2
    simp only [PyData.shown, wt]
    have h3 := shown_wtAll xs h h2
    have h4 := listText_len_le (PyData.shownAll xs)
    omega
  | .tuple xs, h, h2 => by
    simp only [PyData.showable] at h
    simp only [PyData.hasDict] at h2
    simp only [PyData.shown, wt]
    have h3 := shown_wtAll xs h h2
    have h4 := tupleText_len_le (PyData.shownAll xs)
    omega
  | .dict _, _, h2 => by simp [PyData.hasDict] at h2
theorem shown_wtAll : ∀ xs : List PyData, PyData.showableAll xs = true → PyData.hasDictAll xs = false → ((PyData.shownAll xs).map (·.length)).sum + 2 * (PyData.shownAll xs).length ≤ wtAll xs
  | [], _, _ => by simp [PyData.shownAll, wtAll]
  | x :: xs, h, h2 => by
    simp only [PyData.showableAll, Bool.and_eq_true] at h
    simp only [PyData.hasDictAll, Bool.or_eq_false_iff] at h2
    have h3 := shown_wt x h.1 h2.1
    have h4 := shown_wtAll xs h.2 h2.2
    simp only [PyData.shownAll, wtAll, List.map_cons, List.sum_cons, List.length_cons]
    omega
end
def rReprD (K : PySem.W.Frag) : List V → Hp → VK → Prop := fun xs H Q => ∃ x d, xs = [x] ∧ Dp K H x d ∧ SeqAt.shaped d = true ∧ d.showable = true ∧ wt d ≤ sizeLine ∧ Q (.str d.shown) H
theorem cr_reprD {X : Cx} (hg : X.A.guards = some []) (hu : X.A.units + 65 < cLine) : CallR X (.builtin "repr") (rReprD X.K) := by
  intro pins s σ H vs us Q I r h
  obtain ⟨x, d, rfl, hd, hs, hw, hz, q⟩ := h
  cases r with
  | cons rv rn =>
    rename_i v us'
    cases rn
    have hs' : (d.canLay0 && decide (d.depth ≤ 64)) = true := hs
    rw [Bool.and_eq_true] at hs'
    have nd := PyData.hasDict_of_canLay d hs'.1
    have dep : d.depth ≤ 64 := of_decide_eq_true hs'.2
    have sz := Nat.le_trans (shown_wt d hw nd) hz
    obtain ⟨as, rd⟩ := Dp.reads I d x v hd rv
    have ref : ∀ a : Addr, v = .ref a → wpAny (model X.prog X.w) X.A (call (.builtin "repr") [v]) (EP X pins σ Q) X.xe s := fun a e => by
      subst e
      exact repr_of_reads' rd hw (PyData.noDict_hsm nd) hg (by omega) (fun _ _ e => e) (fun h' u tk hk => ⟨.str _, H, I.kept (t' := tk) hk, ⟨u, rfl⟩, q⟩) sz
    cases hd with
    | non =>
      cases rv
      exact PySem.P.repr_of_none ⟨.str _, H, I.tok _, ⟨_, rfl⟩, by simpa only [PyData.shown] using q⟩
    | bl b =>
      cases rv
      exact PySem.P.repr_of_bool ⟨.str _, H, I.tok _, ⟨_, rfl⟩, by simpa only [PyData.shown] using q⟩
    | int i =>
      obtain ⟨t, rfl⟩ := rv
      exact PySem.P.repr_of_int (by simpa [PyData.showable] using hw) ⟨.str _, H, I.tok _, ⟨_, rfl⟩, by simpa only [PyData.shown] using q⟩
    | str y =>
      obtain ⟨t, rfl⟩ := rv
      exact PySem.P.repr_of_str ⟨.str _, H, I.tok _, ⟨_, rfl⟩, by simpa only [PyData.shown] using q⟩ (by simpa only [PyData.shown] using sz)
    | lst _ _ => exact ref _ rv
    | tup _ _ => exact ref _ rv
end L2

namespace T
/-! ### fractions -/
theorem low_pos {a : Int} {n : Nat} (hn : n ≠ 0) : low a (n : Int) = ((Rat.divInt a (n : Int)).num, ((Rat.divInt a (n : Int)).den : Int)) := by
  have e : Rat.divInt a (n : Int) = Rat.normalize a n hn := by
    show mkRat a n = _
    rw [Rat.mkRat_def, dif_neg hn]
  rw [e, Rat.normalize_eq]
  unfold low gI
  rw [if_neg (by omega), Int.natAbs_natCast]
  show (_, _) = (_, (((n / a.natAbs.gcd n : Nat)) : Int))
  rw [Int.natCast_ediv]
theorem low_rat {a b : Int} (hb : b ≠ 0) : low a b = ((Rat.divInt a b).num, ((Rat.divInt a b).den : Int)) := by
  by_cases c : 0 < b
  · obtain ⟨n, rfl⟩ := Int.eq_ofNat_of_zero_le (Int.le_of_lt c)
    exact low_pos (by omega)
  · obtain ⟨n, hn⟩ := Int.eq_ofNat_of_zero_le (show 0 ≤ -b by omega)
    have e : Rat.divInt a b = Rat.divInt (-a) (n : Int) := (Rat.divInt_eq_divInt_iff hb (by omega)).mpr (by rw [← hn, Int.mul_neg, Int.neg_mul])
    rw [e, ← low_pos (by omega), ← hn]
    unfold low gI
    rw [if_pos (by omega), if_neg (by omega), Int.natAbs_neg, Int.natAbs_neg]
theorem low_congr {a b a' b' : Int} (hb : b ≠ 0) (hb' : b' ≠ 0) (h : a * b' = a' * b) : low a b = low a' b' := by
  rw [low_rat hb, low_rat hb', (Rat.divInt_eq_divInt_iff hb hb').mpr h]
theorem low_q {a b u v : Int} (hb : b ≠ 0) (h : (u, v) = low a b) : Rat.divInt u v = Rat.divInt a b ∧ 0 < v := by
  rw [low_rat hb] at h
  have e1 : u = (Rat.divInt a b).num := congrArg Prod.fst h
  have e2 : v = ((Rat.divInt a b).den : Int) := congrArg Prod.snd h
  rw [e1, e2]
  exact ⟨Rat.num_divInt_den _, by have := (Rat.divInt a b).den_pos; omega⟩
theorem low_cross {a b u v : Int} (hb : b ≠ 0) (h : (u, v) = low a b) : u * b = a * v ∧ 0 < v := by
  obtain ⟨h1, h2⟩ := low_q hb h
  exact ⟨(Rat.divInt_eq_divInt_iff (by omega) hb).mp h1, h2⟩
/-- a number times a number: the parts may be reduced ahead or behind -/
theorem num_step {p A B u v a b u' v' : Int} (hp : p = 0 ∨ p ∈ primes) (hB : p = 0 → B ≠ 0) (hb0 : p = 0 → b ≠ 0) (hb1 : p ≠ 0 → b = 1) (hB1 : p ≠ 0 → B = 1) (h : IsNum p A B u v) (h' : IsNum p (u * a) (v * b) u' v') : IsNum p (A * a) (B * b) u' v' := by
  by_cases c : p = 0
  · obtain ⟨_, e⟩ := h.resolve_left (fun z => by omega)
    obtain ⟨_, e'⟩ := h'.resolve_left (fun z => by omega)
    obtain ⟨x1, x2⟩ := low_cross (hB c) e
    refine .inr ⟨by omega, e'.trans (low_congr (Int.mul_ne_zero (by omega) (hb0 c)) (Int.mul_ne_zero (hB c) (hb0 c)) ?_)⟩
    calc u * a * (B * b) = u * B * (a * b) := by rw [Int.mul_assoc, Int.mul_assoc]; congr 1; rw [← Int.mul_assoc, ← Int.mul_assoc, Int.mul_comm a B]
      _ = A * v * (a * b) := by rw [x1]
      _ = A * a * (v * b) := by rw [Int.mul_assoc, Int.mul_assoc]; congr 1; rw [← Int.mul_assoc, ← Int.mul_assoc, Int.mul_comm v a]
  · have hp2 := prime_pos (hp.resolve_left c)
    obtain ⟨h0, e1, l1, u1, m1⟩ := h.resolve_right (fun z => by omega)
    obtain ⟨_, e2, l2, u2, m2⟩ := h'.resolve_right (fun z => by omega)
    refine .inl ⟨h0, e2, l2, u2, ?_⟩
    rw [hB1 c, hb1 c]
    rw [hB1 c, Int.mul_one] at m1
    rw [hb1 c, e1] at m2
    have d1 := Int.dvd_of_emod_eq_zero m1
    have d2 := Int.dvd_of_emod_eq_zero m2
    apply Int.emod_eq_zero_of_dvd
    have e : u' * (1 * 1) - A * a = (u' * (1 * 1) - u * a) + (u - A) * a := by
      rw [Int.sub_mul]
      omega
    rw [e]
    exact Int.dvd_add d2 (Int.dvd_mul_of_dvd_left d1)
theorem low_small {a b u v : Int} (h : (u, v) = low a b) : u.natAbs ≤ a.natAbs ∧ v.natAbs ≤ b.natAbs := by
  have e1 := congrArg Prod.fst h
  have e2 := congrArg Prod.snd h
  unfold low at e1 e2
  by_cases c : b < 0
  · rw [if_pos c] at e1 e2
    have f1 : u = (-a) / gI a b := e1
    have f2 : v = (-b) / gI a b := e2
    have g1 := Int.natAbs_ediv_le_natAbs (-a) (gI a b)
    have g2 := Int.natAbs_ediv_le_natAbs (-b) (gI a b)
    rw [f1, f2]
    omega
  · rw [if_neg c] at e1 e2
    have f1 : u = a / gI a b := e1
    have f2 : v = b / gI a b := e2
    have g1 := Int.natAbs_ediv_le_natAbs a (gI a b)
    have g2 := Int.natAbs_ediv_le_natAbs b (gI a b)
    rw [f1, f2]
    omega
theorem num_small {p a b u v : Int} (hp : p = 0 ∨ p ∈ primes) (h : IsNum p a b u v) (ha : a.natAbs < 2 ^ 199) (hb : b.natAbs < 2 ^ 199) : u.natAbs < 2 ^ 200 ∧ v.natAbs < 2 ^ 200 := by
  rcases h with ⟨h0, rfl, h1, h2, _⟩ | ⟨_, h⟩
  · have := prime_pos (hp.resolve_left (by omega))
    omega
  · have := low_small h
    omega
theorem isW_cases {p d : Int} (hw : isW p d = true) : (p = 0 ∨ p ∈ primes) ∧ d.natAbs ≤ 31 := by
  by_cases c : p = 0
  · refine ⟨.inl c, ?_⟩
    unfold isW at hw
    rw [if_pos c] at hw
    by_cases h1 : -20 ≤ d
    · rw [if_pos h1] at hw
      have := of_decide_eq_true hw
      omega
    · rw [if_neg h1] at hw
      cases hw
  · obtain ⟨h1, h2, h3⟩ := isW_prime hw c
    have := prime_pos h1
    exact ⟨.inr h1, by omega⟩
end T

namespace T
open PySem PySem.Spec PyProof.Rows L2
/-! ### lists of integers as polynomials -/
def co (l : List Int) (k : Nat) : Int := l.getD k 0
theorem co_ge {l : List Int} {k : Nat} (h : l.length ≤ k) : co l k = 0 := by
  unfold co
  rw [List.getD_eq_getElem?_getD, List.getElem?_eq_none h]
  rfl
theorem co_get {l : List Int} {k : Nat} (h : k < l.length) : l[k]? = some (co l k) := by
  unfold co
  rw [List.getD_eq_getElem?_getD, List.getElem?_eq_getElem h]
  rfl
theorem co_mem {l : List Int} {k : Nat} (h : k < l.length) : co l k ∈ l := by
  have e := co_get h
  exact List.mem_of_getElem? e
theorem at_co {l : List Int} {k : Nat} (h : k < l.length) : atI (l.map V.int) (k : Int) = some (.int (co l k)) := atI_nat (by rw [List.getElem?_map, co_get h]; rfl)
theorem at_end {l : List Int} (h : l ≠ []) : atI (l.map V.int) (-1) = some (.int (co l (l.length - 1))) := by
  have hl : 0 < l.length := List.length_pos_iff.mpr h
  have e : l.map V.int = (l.take (l.length - 1)).map V.int ++ [V.int (co l (l.length - 1))] := by
    have e1 : l = l.take (l.length - 1) ++ [co l (l.length - 1)] := by
      have := List.take_succ (l := l) (i := l.length - 1)
      rw [show l.length - 1 + 1 = l.length by omega, List.take_length, co_get (by omega)] at this
      exact this
    conv => lhs; rw [e1]
    rw [List.map_append]
    rfl
  rw [e]
  exact atI_last _ _
/-- no 0 at the end -/
def Pol (l : List Int) : Prop := l = [] ∨ co l (l.length - 1) ≠ 0
theorem pol_len {l m : List Int} (hm : Pol m) (h : ∀ k, co l k = co m k) : m.length ≤ l.length := by
  rcases hm with rfl | hm
  · exact Nat.zero_le _
  · rcases Nat.lt_or_ge l.length m.length with c | c
    · rw [← h, co_ge (by omega)] at hm
      exact absurd rfl hm
    · exact c
theorem pol_ext {l m : List Int} (hl : Pol l) (hm : Pol m) (h : ∀ k, co l k = co m k) : l = m := by
  have h1 := pol_len hm h
  have h2 := pol_len hl (fun k => (h k).symm)
  refine List.ext_getElem? fun k => ?_
  rcases Nat.lt_or_ge k l.length with c | c
  · rw [co_get c, co_get (by omega), h]
  · rw [List.getElem?_eq_none c, List.getElem?_eq_none (by omega)]
theorem co_take {l : List Int} {s k : Nat} (h : ∀ i, s ≤ i → co l i = 0) : co (l.take s) k = co l k := by
  rcases Nat.lt_or_ge k s with c | c
  · unfold co
    rw [List.getD_eq_getElem?_getD, List.getD_eq_getElem?_getD, List.getElem?_take_of_lt c]
  · rw [h k c, co_ge (by rw [List.length_take]; omega)]
theorem pol_take {l : List Int} {s : Nat} (hs : s ≤ l.length) (h : s = 0 ∨ co l (s - 1) ≠ 0) (hz : ∀ i, s ≤ i → co l i = 0) : Pol (l.take s) := by
  rcases h with rfl | h
  · exact .inl rfl
  · by_cases c : s = 0
    · rw [c]
      exact .inl rfl
    · refine .inr ?_
      rw [List.length_take, Nat.min_eq_left hs, co_take hz]
      exact h
theorem co_map {f : Int → Int} (h0 : f 0 = 0) (l : List Int) (k : Nat) : co (l.map f) k = f (co l k) := by
  rcases Nat.lt_or_ge k l.length with c | c
  · have := co_get c
    unfold co
    rw [List.getD_eq_getElem?_getD, List.getElem?_map, List.getD_eq_getElem?_getD, this]
    rfl
  · rw [co_ge (by rw [List.length_map]; omega), co_ge c, h0]
theorem co_set {l : List Int} {i : Nat} {v : Int} (k : Nat) (h : i < l.length) : co (l.set i v) k = if k = i then v else co l k := by
  unfold co
  rw [List.getD_eq_getElem?_getD, List.getElem?_set]
  by_cases c : i = k
  · rw [if_pos c, if_pos c.symm, if_pos (by omega)]
    rfl
  · rw [if_neg c, if_neg (fun z => c z.symm), List.getD_eq_getElem?_getD]
theorem co_zeros (n k : Nat) : co (List.replicate n 0) k = 0 := by
  unfold co
  rw [List.getD_eq_getElem?_getD, List.getElem?_replicate]
  split <;> rfl
theorem map_set (l : List Int) (i : Nat) (v : Int) : (l.map V.int).set i (V.int v) = (l.set i v).map V.int := List.map_set.symm
/-! the value -/
def ev (x : Int) : List Int → Int
  | [] => 0
  | a :: r => a + x * ev x r
theorem ev_append (x : Int) (l : List Int) (a : Int) : ev x (l ++ [a]) = ev x l + x ^ l.length * a := by
  induction l with
  | nil => show a + x * 0 = 0 + x ^ 0 * a; rw [Int.pow_zero]; grind
  | cons b r ih =>
    show b + x * ev x (r ++ [a]) = b + x * ev x r + x ^ (r.length + 1) * a
    rw [ih, Int.pow_succ]
    grind
theorem ev_take (x : Int) {l : List Int} {i : Nat} (h : i < l.length) : ev x (l.take (i + 1)) = ev x (l.take i) + co l i * x ^ i := by
  have e : l.take (i + 1) = l.take i ++ [co l i] := by rw [List.take_succ, co_get h]; rfl
  rw [e, ev_append, List.length_take, Nat.min_eq_left (by omega), Int.mul_comm]
theorem ev_drop (x : Int) {l : List Int} {i : Nat} (h : i < l.length) : ev x (l.drop i) = co l i + x * ev x (l.drop (i + 1)) := by
  rw [List.drop_eq_getElem_cons h]
  have := co_get h
  rw [List.getElem?_eq_getElem h] at this
  rw [Option.some.inj this]
  rfl
/-! the product: what is there behind i rows, and j entries of the next -/
def row (one other : List Int) (i k : Nat) : Int := if i ≤ k then co one i * co other (k - i) else 0
def conv (one other : List Int) : Nat → Nat → Int
  | 0, _ => 0
  | i + 1, k => conv one other i k + row one other i k
theorem conv_more (one other : List Int) (k : Nat) : ∀ i, one.length ≤ i → conv one other i k = conv one other one.length k
  | 0, h => by rw [show one.length = 0 by omega]
  | i + 1, h => by
    by_cases c : one.length = i + 1
    · rw [c]
    · show conv one other i k + row one other i k = _
      rw [conv_more one other k i (by omega)]
      unfold row
      rw [co_ge (l := one) (by omega)]
      split <;> simp
theorem conv_top (one other : List Int) {k : Nat} : ∀ i, i ≤ one.length → i + other.length ≤ k + 1 → conv one other i k = 0
  | 0, _, _ => rfl
  | i + 1, h, hk => by
    show conv one other i k + row one other i k = 0
    rw [conv_top one other i (by omega) (by omega)]
    unfold row
    rw [if_pos (by omega), co_ge (l := other) (by omega)]
    simp
theorem conv_zero (one : List Int) (k : Nat) : ∀ i, conv one [] i k = 0
  | 0 => rfl
  | i + 1 => by
    show conv one [] i k + row one [] i k = 0
    rw [conv_zero one k i]
    unfold row
    rw [show co [] (k - i) = 0 from co_ge (Nat.zero_le _)]
    split <;> simp
theorem rep0 : ∀ n : Nat, (List.replicate n [V.int 0]).flatten = (List.replicate n (0 : Int)).map V.int
  | 0 => rfl
  | n + 1 => by
    rw [List.replicate_succ, List.flatten_cons, rep0 n, List.replicate_succ, List.map_cons]
    rfl
theorem ixN_nat {n j : Nat} (h : j < n) : ixN n (j : Int) = some j := by
  unfold ixN
  rw [if_pos (by omega), if_pos (by omega)]
  rfl
end T

/-! ### enumerate over a tuple (the hand layer has it over a list) -/
namespace PySem
open Sem (wp)
open AutoSeq1 (wpAny_loadPart')
theorem new_enumT (t : Addr) (its : Array Value) (n : Nat) (dc : Option Addr) (sl : Array (Option Value)) :
    Meets (Builtin.«enumerate.__new__» ⟨[.type "enumerate", .ref t], []⟩) (fun _ R s => s.heap.get? t = some { cls := .type "tuple", dict := dc, data := .seq its n, slots := sl } ∧
      R (.ok (.ret (.ref (s.heap.push { cls := .type "tuple_iterator", data := .fields #[.ref t, .int 0 0] }).objs.size)))
        { s with heap := (s.heap.push { cls := .type "tuple_iterator", data := .fields #[.ref t, .int 0 0] }).push { cls := .type "enumerate", data := .fields #[.none, .bool false, .ref s.heap.objs.size, rawInt 0, .none, .none] } }) :=
  .of_wp fun prog w A R s both => by
    obtain ⟨hp, g, d, tk, os⟩ := s
    obtain ⟨ht, both⟩ := both
    have below := sub_enumerate
    have tup : Heap.IsTuple (Shared.heap ⟨hp, g, d, tk, os⟩) t its := ⟨_, ht, rfl, n, rfl⟩
    wp_walk using wpAny_loadPart' ht
    refine wpAny_stack_any fun _ => wpAny_pure ?_
    split
    · rename_i c _ _ _ _ _
      cases (c == Value.type "enumerate")
      · wp_walk using wpAny_loadPart' ht, wpAny_pyIter_tuple tup
        exact ⟨_, rfl, both⟩
      · wp_walk using wpAny_loadPart' ht, wpAny_pyIter_tuple tup
        exact ⟨_, rfl, both⟩
    · wp_walk using wpAny_loadPart' ht, wpAny_pyIter_tuple tup
      exact ⟨_, rfl, both⟩
section
variable {prog : Program} {w : World} {A : Around} {E : Value → Shared → Prop} {s : Shared}
theorem call_enumT {t : Addr} {its : Array Value} {Q : Value → Shared → Prop} (ht : s.heap.IsTuple t its)
    (q : ∀ h', IsEnum h' (s.heap.objs.size + 1) s.heap.objs.size 0 .none → h'.IsTupleIter s.heap.objs.size t 0 →
      (∀ b o, s.heap.get? b = some o → h'.get? b = some o) → Q (.ref (s.heap.objs.size + 1)) { s with heap := h' }) :
    wpAny (model prog w) A (call (.type "enumerate") [.ref t]) Q E s := by
  obtain ⟨⟨c, dc, da, sl⟩, ht, ec, n, ed⟩ := ht
  obtain rfl : c = .type "tuple" := ec
  obtain rfl : da = .seq its n := ed
  refine callType_new F.called_enumerate (by decide) (F.typeCall_enumerate_1 _) (F.newCall_enumerate_1 _) (fun ob => F.args_object_init_2 ob _) F.entry_enumerate_new (new_enumT t its n dc sl) ⟨ht, ?_⟩
  have sz : (s.heap.push { cls := .type "tuple_iterator", data := .fields #[.ref t, .int 0 0] }).objs.size = s.heap.objs.size + 1 := Heap.size_push ..
  show _ ∧ _
  rw [sz]
  have en : IsEnum ((s.heap.push { cls := .type "tuple_iterator", data := .fields #[.ref t, .int 0 0] }).push { cls := .type "enumerate", data := .fields #[.none, .bool false, .ref s.heap.objs.size, rawInt 0, .none, .none] })
      (s.heap.objs.size + 1) s.heap.objs.size 0 .none := by
    have z := Heap.get?_push_size (s.heap.push { cls := .type "tuple_iterator", data := .fields #[.ref t, .int 0 0] }) (o := { cls := .type "enumerate", data := .fields #[.none, .bool false, .ref s.heap.objs.size, rawInt 0, .none, .none] }) rfl
    rw [sz] at z
    exact z
  exact ⟨⟨_, en, rfl⟩, q _ en ⟨_, Heap.get?_push_of_some _ (Heap.get?_push_size _ rfl), rfl, rfl⟩ fun b o x => Heap.get?_push_of_some _ (Heap.get?_push_of_some _ x)⟩
end
end PySem
namespace L2
open PySem PySem.Spec PyProof.Rows
/-- the tuple at a, each item in a new pair behind its index -/
def IteT (K : PySem.W.Frag) (a : Addr) : It :=
  ⟨fun i H => ∃ (ys : List V) (y : V), SqT K H a ys ∧ ys[i]? = some y, fun i H v H' => ∃ p y, v = .ref p ∧ H p = none ∧ H' = upd H p (.tup [.int (i : Nat), y]) ∧ ∀ ys, SqT K H a ys → ys[i]? = some y,
    fun i H => ∃ ys : List V, SqT K H a ys ∧ ys.length = i⟩
theorem turn_enumT {P : Program} {w : World} {K : PySem.W.Frag} {elts : List Expr} {kk : Nat} {tp : Pos} (a e it : Addr) :
    Turn P w K (.Tuple elts kk tp) (IteT K a) [e, it] e (fun i h => (∃ old, IsEnum h e it ((i : Nat) : Int) old) ∧ h.IsTupleIter it a i ∧ (e ≠ it ∧ a ≠ it ∧ a ≠ e)) where
  mem := by simp
  obj := fun i h st b hb => by
    obtain ⟨⟨old, he⟩, ⟨o, ho, _, dd⟩, _⟩ := st
    rcases (show b = e ∨ b = it by simpa using hb) with rfl | rfl
    · exact ⟨_, he, fun v z => nomatch z⟩
    · exact ⟨o, ho, fun v z => by rw [dd] at z; exact nomatch z⟩
  keep := fun i h h' st k => by
    obtain ⟨⟨old, he⟩, ⟨o, ho, r⟩, ne⟩ := st
    exact ⟨⟨old, k e (by simp) _ he⟩, ⟨o, k it (by simp) _ ho, r⟩, ne⟩
  item := by
    intro X hP hw hK hc i pins s σ H E I hf st hg
    subst hP hw hK
    obtain ⟨⟨old, he⟩, hit, ne, nai, nae⟩ := st
    obtain ⟨ys, y, hq, hy⟩ := hg
    obtain ⟨its, rv, p, hz⟩ := I.tuple hq
    obtain ⟨u, hu, ru⟩ := rv.get hy
    have szE : e < s.heap.objs.size := Heap.lt_size he
    have szI : it < s.heap.objs.size := by
      obtain ⟨_, z, _⟩ := hit
      exact Heap.lt_size z
    have small : ∀ b ∈ [e, it], b < s.heap.objs.size := fun b hb => by
      rcases (show b = e ∨ b = it by simpa using hb) with rfl | rfl <;> assumption
    have D := Draws.tuple (prog := X.prog) (w := X.w) (A := X.A.in1) (I.ok.hd hc) it a nai its.toArray
    have hlt : i < its.toArray.size := by
      have := (List.getElem?_eq_some_iff.mp hu).1
      simpa using this
    refine wpAny_pyNext_enum_itemD D he ⟨hit, p⟩ hlt ne (by simp only [List.mem_cons, List.not_mem_nil, or_false, not_or]; exact ⟨ne, Ne.symm nae⟩) fun x h' tk hx ho st2 hT hsz hk => ?_
    obtain ⟨hit2, _⟩ := st2
    have ex : x = u := by
      have h2 : its.toArray[i]? = some u := by simpa using hu
      rw [h2] at hx
      exact (Option.some.inj hx).symm
    subst ex
    refine ⟨_, rfl, wpAny_letOwnedTupleGo_enum (s := { s with heap := h', toks := tk + 1 }) ho fun h'' he' sb => ?_⟩
    have hT2 : h''.get? s.heap.objs.size = some { cls := .type "tuple", data := .seq #[.int i tk, x] } := (sb.2 _ (Nat.ne_of_gt szE)).trans hT
    have okN : ObjOk X.prog X.w (upd H s.heap.objs.size (.tup [.int (i : Nat), y])) h'' s.heap.objs.size (.tup [.int (i : Nat), y]) :=
      ⟨by show 2 ≤ sizeLine; decide, [.int i tk, x], .cons ⟨_, rfl⟩ (.cons ru .nil), ⟨_, hT2, rfl, _, rfl⟩⟩
    have J : Inv X pins σ (upd H s.heap.objs.size (.tup [.int (i : Nat), y])) { s with heap := h'', toks := tk + 1 } :=
      I.turnedNew (ch := [e, it]) (fun b ob hb z => (sb.2 b (fun y => hb (by simp [y]))).trans (hk b ob (fun y => hb (by simp [y])) (fun y => hb (by simp [y])) z)) hf (Nat.le_refl _) okN
    refine ⟨.ref s.heap.objs.size, _, J, rfl, ⟨_, y, rfl, I.hok.fresh (Nat.le_refl _), rfl, fun zs hs => by rw [I.tuple_inj hs hq]; exact hy⟩, ⟨⟨x, ?_⟩, ?_, ne, nai, nae⟩, fun b hb => ?_⟩
    · rw [show ((i + 1 : Nat) : Int) = (i : Int) + 1 by omega]
      exact he'
    · obtain ⟨o, ho2, r⟩ := hit2
      exact ⟨o, (sb.2 it (Ne.symm ne)).trans ho2, r⟩
    · rw [upd_ne (Nat.ne_of_lt (small b hb))]
      exact (hf b hb).1
  done := by
    intro X hP hw hK hc i pins s σ H E I hf st hg
    subst hP hw hK
    obtain ⟨⟨old, he⟩, hit, ne, nai, nae⟩ := st
    obtain ⟨ys, hq, hle⟩ := hg
    obtain ⟨its, rv, p, hz⟩ := I.tuple hq
    have len : its.toArray.size = i := by
      have := rv.length
      simp
      omega
    obtain ⟨g0, g1, _, g3, g4, g5⟩ := hf it (by simp)
    rw [← len] at hit
    have D := Draws.tuple (prog := X.prog) (w := X.w) (A := X.A.in1) (I.ok.hd hc) it a nai its.toArray
    exact wpAny_pyNext_enum_endD D he ⟨hit, p⟩ fun h' eb => ⟨rfl, I.turned (t' := s.toks) (fun b o hb z => eb b o hb z) g0 g1 g3 g4 g5⟩
  self := fun A i s Q E st h => by
    obtain ⟨⟨_, he⟩, _⟩ := st
    exact wpAny_pyIter_enum he h
def iEnumT (K : PySem.W.Frag) (ta : TA) : TI := fun σ H R => ta σ H fun vs H1 => ∃ a ys, vs = [.ref a] ∧ SqT K H1 a ys ∧ R (IteT K a) H1
theorem pi_enumT {X : Cx} {e : Expr} {ta : TA} {p pos tp : Pos} {elts : List Expr} {kk : Nat} (hg : Gl X "enumerate") (hm : X.mg "enumerate" = none) (ha : PA X [e] ta) (hs : starEach [e] X.env = [(false, eval e X.env)] := by rfl) :
    PI X (.Tuple elts kk tp) (.Call (.Name "enumerate" p) [e] [] pos) (iEnumT X.K ta) := by
  refine ⟨fun pins s σ H R I h => Call_ (ld_blt I hg hm boot_enumerate (PyProof.Rows.callWith_type1 (thn (ha.run pos pins s σ H _ I h) fun us s1 ⟨vs, H1, I1, r1, q1⟩ => ?_) hs rfl))⟩
  obtain ⟨a, ys, rfl, hq, q⟩ := q1
  cases r1 with
  | cons r rr =>
    cases rr
    cases r
    obtain ⟨its, rv, p', hz⟩ := I1.tuple hq
    have hp' : s1.heap.IsTuple a its.toArray := p'
    have old : a < s1.heap.objs.size := by
      obtain ⟨o, ho, _⟩ := hp'
      exact Heap.lt_size ho
    refine call_enumT hp' fun h' he hit hk => wpAny_pyIter_enum he ?_
    refine ⟨s1.heap.objs.size + 1, [s1.heap.objs.size + 1, s1.heap.objs.size], _, _, H1, rfl, I1.kept (t' := s1.toks) hk, turn_enumT a (s1.heap.objs.size + 1) s1.heap.objs.size,
      ⟨⟨.none, he⟩, hit, Nat.succ_ne_self _, Nat.ne_of_lt old, Nat.ne_of_lt (Nat.lt_succ_of_lt old)⟩, fun b hb => ?_, q⟩
    have hle : s1.heap.objs.size ≤ b := by
      rcases (show b = s1.heap.objs.size + 1 ∨ b = s1.heap.objs.size by simpa using hb) with rfl | rfl
      · exact Nat.le_succ _
      · exact Nat.le_refl _
    exact I1.fpOk hle (I1.hok.fresh hle)
theorem walk_enumT {K : PySem.W.Frag} {a : Addr} {xs : List V} : Walk (IteT K a) xs.length (fun H => SqT K H a xs) (YPair (fun i => some (.int (i : Nat))) (fun i => xs[i]?)) :=
  ⟨fun i H hi h => ⟨xs, _, h, List.getElem?_eq_getElem hi⟩, fun H h => ⟨xs, h, rfl⟩, fun i H v H' hi h y => by
    obtain ⟨p, z, rfl, np, rfl, hz⟩ := y
    exact ⟨p, _, z, rfl, np, rfl, rfl, hz xs h⟩⟩
end L2

namespace T
/-! ### products by coefficients, division -/
def ms (f g : Nat → Int) : Nat → Nat → Int
  | 0, _ => 0
  | n + 1, k => ms f g n k + f n * g (k - n)
def mulc (f g : Nat → Int) (k : Nat) : Int := ms f g (k + 1) k
theorem conv_ms (l m : List Int) (k : Nat) : ∀ i, i ≤ k + 1 → conv l m i k = ms (co l) (co m) i k
  | 0, _ => rfl
  | i + 1, h => by
    show conv l m i k + row l m i k = ms (co l) (co m) i k + co l i * co m (k - i)
    rw [conv_ms l m k i (by omega)]
    unfold row
    rw [if_pos (by omega)]
theorem conv_past (l m : List Int) (k : Nat) : ∀ t, conv l m (k + 1 + t) k = conv l m (k + 1) k
  | 0 => rfl
  | t + 1 => by
    show conv l m (k + 1 + t) k + row l m (k + 1 + t) k = _
    rw [conv_past l m k t]
    unfold row
    rw [if_neg (by omega), Int.add_zero]
theorem conv_mulc (l m : List Int) (k : Nat) : conv l m l.length k = mulc (co l) (co m) k := by
  rw [← conv_more l m k (k + 1 + l.length) (by omega), conv_past, conv_ms l m k (k + 1) (Nat.le_refl _)]
  rfl
theorem ms_congr {f f' g g' : Nat → Int} {k : Nat} : ∀ n, (∀ i, i < n → f i = f' i) → (∀ i, g i = g' i) → ms f g n k = ms f' g' n k
  | 0, _, _ => rfl
  | n + 1, h, hg => by
    show ms f g n k + f n * g (k - n) = ms f' g' n k + f' n * g' (k - n)
    rw [ms_congr n (fun i hi => h i (by omega)) hg, h n (by omega), hg]
theorem ms_sub (f h g : Nat → Int) (k : Nat) : ∀ n, ms (fun i => f i - h i) g n k = ms f g n k - ms h g n k
  | 0 => by simp [ms]
  | n + 1 => by
    show ms (fun i => f i - h i) g n k + (f n - h n) * g (k - n) = ms f g n k + f n * g (k - n) - (ms h g n k + h n * g (k - n))
    rw [ms_sub f h g k n, Int.sub_mul]
    omega
theorem mulc_sub (f h g : Nat → Int) (k : Nat) : mulc (fun i => f i - h i) g k = mulc f g k - mulc h g k := ms_sub f h g k (k + 1)
theorem ms_zero {f g : Nat → Int} {k : Nat} : ∀ n, (∀ i, i < n → f i * g (k - i) = 0) → ms f g n k = 0
  | 0, _ => rfl
  | n + 1, h => by
    show ms f g n k + f n * g (k - n) = 0
    rw [ms_zero n (fun i hi => h i (by omega)), h n (by omega)]
    rfl
/-- a single term -/
def mono (s : Nat) (c : Int) (i : Nat) : Int := if i = s then c else 0
theorem ms_mono (s : Nat) (c : Int) (g : Nat → Int) (k : Nat) : ∀ n, ms (mono s c) g n k = if s < n then c * g (k - s) else 0
  | 0 => by rw [if_neg (Nat.not_lt_zero _)]; rfl
  | n + 1 => by
    show ms (mono s c) g n k + mono s c n * g (k - n) = _
    rw [ms_mono s c g k n]
    unfold mono
    by_cases h1 : s < n
    · rw [if_pos h1, if_neg (by omega), if_pos (by omega)]
      simp
    · by_cases h2 : n = s
      · rw [if_neg h1, if_pos h2, if_pos (by omega), h2, Int.zero_add]
      · rw [if_neg h1, if_neg h2, if_neg (by omega)]
        simp
theorem mulc_mono (s : Nat) (c : Int) (g : Nat → Int) (k : Nat) : mulc (mono s c) g k = if s ≤ k then c * g (k - s) else 0 := by
  unfold mulc
  rw [ms_mono]
  by_cases h : s ≤ k
  · rw [if_pos h, if_pos (by omega)]
  · rw [if_neg h, if_neg (by omega)]
theorem ms_add (f h g : Nat → Int) (k : Nat) : ∀ n, ms (fun i => f i + h i) g n k = ms f g n k + ms h g n k
  | 0 => by simp [ms]
  | n + 1 => by
    show ms (fun i => f i + h i) g n k + (f n + h n) * g (k - n) = ms f g n k + f n * g (k - n) + (ms h g n k + h n * g (k - n))
    rw [ms_add f h g k n, Int.add_mul]
    omega
theorem mulc_add (f h g : Nat → Int) (k : Nat) : mulc (fun i => f i + h i) g k = mulc f g k + mulc h g k := ms_add f h g k (k + 1)
/-- the topmost coefficient -/
theorem mulc_top {f g : Nat → Int} {n d : Nat} (hf : ∀ i, n < i → f i = 0) (hg : ∀ j, d < j → g j = 0) : mulc f g (n + d) = f n * g d := by
  unfold mulc
  have split : ∀ t, ms f g (n + 1 + t) (n + d) = ms f g (n + 1) (n + d) := fun t => by
    induction t with
    | zero => rfl
    | succ t ih =>
      show ms f g (n + 1 + t) (n + d) + f (n + 1 + t) * g (n + d - (n + 1 + t)) = _
      rw [ih, hf (n + 1 + t) (by omega)]
      simp
  rw [show n + d + 1 = n + 1 + d by omega, split]
  show ms f g n (n + d) + f n * g (n + d - n) = _
  rw [ms_zero n (fun i hi => by rw [hg (n + d - i) (by omega)]; simp), show n + d - n = d by omega, Int.zero_add]
/-- Q times other is one -/
def Sol (one other : List Int) (q : List Int) : Prop := ∀ k, mulc (co q) (co other) k = co one k
/-- how far a division has come: f, what is found; r, the rest; from L - d on every solution is f -/
structure Dv (one other : List Int) (f : Nat → Int) (r : Nat → Int) (L : Nat) : Prop where
  eq : ∀ k, co one k = mulc f (co other) k + r k
  rz : ∀ k, L ≤ k → r k = 0
  qs : ∀ q, Sol one other q → ∀ k, L ≤ k + (other.length - 1) → co q k = f k
theorem dv_start {one other : List Int} (ho : other ≠ []) (po : Pol other) : Dv one other (fun _ => 0) (co one) one.length := by
  have n0 := List.length_pos_iff.mpr ho
  have hc := po.resolve_left ho
  refine ⟨fun k => ?_, fun k h => co_ge h, fun q hq k hk => ?_⟩
  · rw [show mulc (fun _ => 0) (co other) k = 0 from ms_zero _ (fun i _ => by simp), Int.zero_add]
  · -- from the top of q down
    have top : ∀ t k, q.length ≤ k + t → one.length ≤ k + (other.length - 1) → co q k = 0 := fun t => by
      induction t with
      | zero => exact fun k h _ => co_ge h
      | succ t ih =>
        intro k h hk
        have hf : ∀ i, k < i → co q i = 0 := fun i hi => ih i (by omega) (by omega)
        have e := mulc_top (f := co q) (g := co other) (n := k) (d := other.length - 1) hf (fun j hj => co_ge (by omega))
        rw [hq, co_ge (by omega)] at e
        exact (Int.mul_eq_zero.mp e.symm).resolve_right hc
    exact top q.length k (by omega) hk
/-- the rest's topmost coefficient is a solution's coefficient times the other's topmost one -/
theorem dv_lead {one other : List Int} {f r : Nat → Int} {L : Nat} (h : Dv one other f r L) (ho : other ≠ []) (hL : other.length ≤ L) {q : List Int} (hq : Sol one other q) (hf : f (L - other.length) = 0) : r (L - 1) = co q (L - other.length) * co other (other.length - 1) := by
  have n0 := List.length_pos_iff.mpr ho
  have e1 : r (L - 1) = mulc (fun i => co q i - f i) (co other) (L - 1) := by
    rw [mulc_sub, hq]
    have := h.eq (L - 1)
    omega
  rw [e1, show L - 1 = (L - other.length) + (other.length - 1) by omega, mulc_top (n := L - other.length) (d := other.length - 1) (fun i hi => ?_) (fun j hj => co_ge (by omega)), hf, Int.sub_zero]
  have := h.qs q hq i (by omega)
  show co q i - f i = 0
  omega
/-- one step: the rest without part times the other, shifted -/
theorem dv_step {one other : List Int} {f r : Nat → Int} {L : Nat} (h : Dv one other f r L) (ho : other ≠ []) (po : Pol other) (hL : other.length ≤ L) (hf : f (L - other.length) = 0) {c : Int} (hc : c * co other (other.length - 1) = r (L - 1))
    {r' : Nat → Int} (hr : ∀ k, r' k = r k - (if L - other.length ≤ k then c * co other (k - (L - other.length)) else 0)) : Dv one other (fun i => f i + mono (L - other.length) c i) r' (L - 1) := by
  have n0 := List.length_pos_iff.mpr ho
  refine ⟨fun k => ?_, fun k hk => ?_, fun q hq k hk => ?_⟩
  · rw [mulc_add, mulc_mono, hr, h.eq k]
    omega
  · rw [hr]
    by_cases e : k = L - 1
    · rw [if_pos (by omega), e, show L - 1 - (L - other.length) = other.length - 1 by omega, hc]
      omega
    · rw [h.rz k (by omega)]
      by_cases e2 : L - other.length ≤ k
      · rw [if_pos e2, co_ge (l := other) (by omega)]
        simp
      · rw [if_neg e2]
        rfl
  · show co q k = f k + mono (L - other.length) c k
    unfold mono
    by_cases e : k = L - other.length
    · have e2 := dv_lead h ho hL hq hf
      rw [← hc] at e2
      have := Int.eq_of_mul_eq_mul_right (po.resolve_left ho) e2
      rw [if_pos e, e, hf, this, Int.zero_add]
    · rw [if_neg e, h.qs q hq k (by omega), Int.add_zero]
theorem dv_none {one other : List Int} {f r : Nat → Int} {L : Nat} (h : Dv one other f r L) (ho : other ≠ []) (hL : other.length ≤ L) (hf : f (L - other.length) = 0) (hc : ∀ c, c * co other (other.length - 1) ≠ r (L - 1)) (q : List Int) : ¬ Sol one other q :=
  fun hq => hc _ (dv_lead h ho hL hq hf).symm
theorem dv_end {one other : List Int} {f r : Nat → Int} {L : Nat} (h : Dv one other f r L) (ho : other ≠ []) (hL : L < other.length) : (∀ q, Sol one other q → (∀ k, co q k = f k) ∧ ∀ k, r k = 0) := by
  have n0 := List.length_pos_iff.mpr ho
  intro q hq
  have e : ∀ k, co q k = f k := fun k => h.qs q hq k (by omega)
  refine ⟨e, fun k => ?_⟩
  have h1 := h.eq k
  have h2 := hq k
  have h3 : mulc (co q) (co other) k = mulc f (co other) k := ms_congr _ (fun i _ => e i) (fun _ => rfl)
  omega
theorem dv_sol {one other q : List Int} {f r : Nat → Int} {L : Nat} (h : Dv one other f r L) (hq : ∀ k, co q k = f k) (hr : ∀ k, r k = 0) : Sol one other q := fun k => by
  have h1 := h.eq k
  have h3 : mulc (co q) (co other) k = mulc f (co other) k := ms_congr _ (fun i _ => hq i) (fun _ => rfl)
  rw [h3, h1, hr]
  omega
end T

/-! ### f(e, .., k = v, ..) in a try -/
namespace L2
open PySem PySem.Spec PyProof.Rows
def tCallNS (n m : Nat) (sp : Sp) (gV : List V → List V → List V) (E : St → XK) (t tk : TA) : TE := fun σ H Q => t σ H fun vs H1 => tk σ H1 fun zs H2 => vs.length = n ∧ zs.length = m ∧ sp (gV vs zs) H2 Q (E σ)
section
variable {X : Cx} {CX : CXT} {k n : Nat} {f : Addr} {fd : FuncData} {ps ks : List Str} {sp : Sp} {E : St → XK} {x : Str} {p pos : Pos} {e : Expr} {es : List Expr} {kws : List Keyword} {t tk : TA} {g : List Value → List Value → List Value} {gV : List V → List V → List V}
theorem run_fnNS {pins : List (Addr × Obj)} {σ : St} {H : Hp} {s : Shared} {Q : VK} {us ws : List Value} {vs zs : List V} (F : FnOk X.prog X.w X.K X.mg X.base CX k f fd ps sp) (hr : Room k X.A) (hb : KBn X.K fd ps n ks g gV) (hx : PassesAt CX X σ (E σ))
    (I : Inv X pins σ H s) (r : Vals vs us) (rz : Vals zs ws) (l1 : vs.length = n) (l2 : zs.length = ks.length) (h : sp (gV vs zs) H Q (E σ)) : wpAny (model X.prog X.w) X.A (call (.ref f) us (ks.zip ws)) (EP X pins σ Q) X.xe s := by
  have r2 := hb.rel r rz
  refine wpAny_call (codeAny_mono (F.run X.A X.stack s H ⟨us, ks.zip ws⟩ (g us ws) (gV vs zs) Q (E σ) hr I.env0 (hb.to s us ws I.kIn (r.length.symm.trans l1) (rz.length.symm.trans l2)) r2 h) fun r s' hq => ?_)
  cases r with
  | error e => exact hx pins H s e s' I hq
  | ok fl =>
    cases fl with
    | ret u => exact I.after hq
    | next => exact False.elim hq
    | brk => exact False.elim hq
    | cont => exact False.elim hq
theorem pe_callNS (F : FnOk X.prog X.w X.K X.mg X.base CX k f fd ps sp) (hr : Room k X.A) (hg : Gl X x) (hm : X.mg x = some (.ref f)) (hk : PySem.W.keepIn X.K (.ref f) = true) (hb : KBn X.K fd ps n ks g gV) (hx : ∀ σ, PassesAt CX X σ (E σ))
    (ha : PA X (e :: es) t) (hkw : PK X kws tk) (hall : (backToKw pos (keywordEach kws X.env)).all (·.1.isSome) = true := by rfl) (hks : (backToKw pos (keywordEach kws X.env)).filterMap (·.1) = ks := by rfl)
    (hdb : (x == ("__debug__" : Str)) = false := by decide) (he : starEach (e :: es) X.env = (false, eval e X.env) :: starEach es X.env := by rfl)
    (hpl : ((backTo pos (starEach (e :: es) X.env)).any (·.1) || (backToKw pos (keywordEach kws X.env)).any (·.1.isNone)) = false := by rfl) :
    PE X (.Call (.Name x p) (e :: es) kws pos) (tCallNS n ks.length sp gV E t tk) := by
  refine ⟨fun pins s σ H Q I h => ?_⟩
  refine wpAny_Call_Name_kw (ld_glob I hg hm ?_ hdb)
  refine PySem.W.callWith_KW (h₀ := X.base) I.ok.mod.kin hk hall (thn (ha.run pos pins s σ H _ I h) fun us s1 ⟨vs, H1, I1, r, q⟩ => ?_) hpl he
  refine thn (hkw.run pos pins s1 σ H1 _ I1 q) fun ws s2 ⟨zs, H2, I2, rz, l1, l2, q2⟩ => ⟨I2.kIn, ?_⟩
  rw [hks]
  exact run_fnNS F hr hb (hx σ) I2 r rz l1 l2 q2
end
end L2

/-! ### tuple * n for n = 0 and n = 1 -/
namespace L2
open PySem PySem.Spec PyProof.Rows
theorem tuple_mulX (l : Addr) (items : Array Value) (n : Nat) (dd : Option Addr) (sl : Array (Option Value)) (x : Int) (u : Tok) (c0 : (decide (x < -(2 ^ 63)) || decide (x ≥ 2 ^ 63)) = false) (c1 : (items.isEmpty || x == 1) = true) :
    Meets (Builtin.«tuple.__mul__» ⟨[.ref l, .int x u], []⟩) (fun _ R s => s.heap.get? l = some { cls := .type "tuple", dict := dd, data := .seq items n, slots := sl } ∧ R (.ok (.ret (Value.ref l))) s) :=
  .of_wp fun prog w A R s h => by
    obtain ⟨hp, g, d, tk, os⟩ := s
    obtain ⟨hl, h⟩ := h
    have f1 := AutoSeq1.idx_int
    wp_walk using wpAny_loadPart' hl
    repeat (first
      | (refine wpAny_ite_false (decide_eq_false (by rw [c0]; exact Bool.false_ne_true)) ?_; wp_walk using wpAny_loadPart' hl)
      | (refine wpAny_ite_true (decide_eq_true c1) ?_; wp_walk using wpAny_loadPart' hl))
    exact ⟨_, rfl, h⟩
theorem tuple_mulZ (l : Addr) (items : Array Value) (n : Nat) (dd : Option Addr) (sl : Array (Option Value)) (x : Int) (u : Tok) (c0 : (decide (x < -(2 ^ 63)) || decide (x ≥ 2 ^ 63)) = false) (c1 : (items.isEmpty || x == 1) = false) (c2 : (decide (x ≤ 0) || items.isEmpty) = true) :
    Meets (Builtin.«tuple.__mul__» ⟨[.ref l, .int x u], []⟩) (fun _ R s => s.heap.get? l = some { cls := .type "tuple", dict := dd, data := .seq items n, slots := sl } ∧
      R (.ok (.ret (Value.ref s.heap.objs.size))) { s with heap := s.heap.push { cls := Value.type "tuple", data := Data.seq #[] }, toks := s.toks }) :=
  .of_wp fun prog w A R s h => by
    obtain ⟨hp, g, d, tk, os⟩ := s
    obtain ⟨hl, h⟩ := h
    have f1 := AutoSeq1.idx_int
    wp_walk using wpAny_loadPart' hl
    repeat (first
      | (refine wpAny_ite_false (decide_eq_false (by rw [c0]; exact Bool.false_ne_true)) ?_; wp_walk using wpAny_loadPart' hl)
      | (refine wpAny_ite_false (decide_eq_false (by rw [c1]; exact Bool.false_ne_true)) ?_; wp_walk using wpAny_loadPart' hl)
      | (refine wpAny_ite_true (decide_eq_true c2) ?_; wp_walk using wpAny_loadPart' hl))
    exact ⟨_, rfl, h⟩
def rRepA (K : PySem.W.Frag) : R2 := fun x y H Q => ∃ l k xs, x = .ref l ∧ y = .int k ∧ SqT K H l xs ∧ xs ≠ [] ∧ 0 ≤ k ∧ k ≤ 1000 ∧ xs.length ≤ 1000 ∧ (k = 1 → Q (.ref l) H) ∧ (k ≠ 1 → ∀ p, H p = none → Q (.ref p) (upd H p (.tup (List.replicate k.toNat xs).flatten)))
section
variable {X : Cx}
theorem op_repA : OpR X (binaryOp .Mult) (rRepA X.K) := by
  intro pins s σ H x y v u Q I rx ry h
  obtain ⟨l, k, xs, rfl, rfl, hT, hne, h1, h2, hz, q1, q⟩ := h
  by_cases big : 2 ≤ k
  · exact op_repT pins s σ H _ _ v u Q I rx ry ⟨l, k, xs, rfl, rfl, hT, hne, big, h2, hz, q (by omega)⟩
  cases rx
  obtain ⟨t, rfl⟩ := ry
  obtain ⟨its, r, ⟨⟨cls, dd, data, sl⟩, ho, hc, n, hd⟩, hs⟩ := I.tuple hT
  simp only at hc hd
  subst hc hd
  have hle : its.length = xs.length := r.length.symm
  have hn : its ≠ [] := fun e => hne (by
    rw [e] at hle
    exact List.eq_nil_of_length_eq_zero hle.symm)
  have hi : its.toArray.isEmpty = false := by
    cases its with
    | nil => exact absurd rfl hn
    | cons a b => rfl
  have c0 : (decide (k < -(2 ^ 63)) || decide (k ≥ 2 ^ 63)) = false := by
    rw [decide_eq_false (by omega), decide_eq_false (by omega)] <;> rfl
  by_cases one : k = 1
  · have c1 : (its.toArray.isEmpty || k == 1) = true := by
      rw [hi, Bool.false_or]
      exact beq_iff_eq.mpr one
    exact wpAny_binaryOp_repeat_ref (T := "tuple") (U := "int") (by decide) ⟨_, ho, rfl⟩ (fun s' => typeIs_int s' k t) noFill_tuple_mul F.fills_int_mul F.slot_int_rmul repeat_tuple F.slot_int_index.lookup
      (call_meets F.slot_int_rmul (typeIs_int s k t) F.entry_int_rmul (F.args_int_rmul_2 _ _) (int_rmul_tuple k t l its.toArray n dd sl)
        ⟨ho, rfl, ⟨_, ho, rfl⟩, call_meets F.slot_tuple_mul ⟨_, ho, rfl⟩ F.entry_tuple_mul (F.args_tuple_mul_2 _ _) (tuple_mulX l its.toArray n dd sl k t c0 c1) ⟨ho, ⟨.ref l, H, I, rfl, q1 one⟩⟩⟩)
  · have zero : k = 0 := by omega
    have c1 : (its.toArray.isEmpty || k == 1) = false := by
      rw [hi, Bool.false_or]
      exact beq_eq_false_iff_ne.mpr one
    have c2 : (decide (k ≤ 0) || its.toArray.isEmpty) = true := by
      rw [hi, Bool.or_false]
      exact decide_eq_true (by omega)
    refine wpAny_binaryOp_repeat_ref (T := "tuple") (U := "int") (by decide) ⟨_, ho, rfl⟩ (fun s' => typeIs_int s' k t) noFill_tuple_mul F.fills_int_mul F.slot_int_rmul repeat_tuple F.slot_int_index.lookup
      (call_meets F.slot_int_rmul (typeIs_int s k t) F.entry_int_rmul (F.args_int_rmul_2 _ _) (int_rmul_tuple k t l its.toArray n dd sl)
        ⟨ho, rfl, ⟨_, ho, rfl⟩, call_meets F.slot_tuple_mul ⟨_, ho, rfl⟩ F.entry_tuple_mul (F.args_tuple_mul_2 _ _) (tuple_mulZ l its.toArray n dd sl k t c0 c1 c2) ⟨ho, ?_⟩⟩)
    refine ⟨.ref s.heap.objs.size, _, I.laid (t' := s.toks) (o := .tup (List.replicate k.toNat xs).flatten) (fun b ob q => Heap.get?_push_of_some _ q) (Nat.le_refl _) ?_, rfl, q one _ (I.hok.fresh (Nat.le_refl _))⟩
    rw [zero]
    exact ⟨Nat.zero_le _, [], .nil, IsTup.new _ _⟩
end
end L2

/-! ### fe(e, ..), fe an expression that gives one of several defs -/
namespace L2
open PySem PySem.Spec PyProof.Rows
structure HeldX (P : Program) (w : World) (K : PySem.W.Frag) (mg : Str → Option Value) (base : Heap) (CX : CXT) (k : Nat) (f : Addr) (sp : Sp) : Prop where
  ex : ∃ (fd : FuncData) (ps : List Str), FnOk P w K mg base CX k f fd ps sp ∧ PySem.W.keepIn K (.ref f) = true ∧ Binds K fd ps []
def tCallE (S : Addr → Option Sp) (E : St → XK) (tf : TE) (t : TA) : TE := fun σ H Q => tf σ H fun y H1 => ∃ f sp, y = V.ref f ∧ S f = some sp ∧ t σ H1 fun vs H2 => sp vs H2 Q (E σ)
section
variable {X : Cx} {CX : CXT} {k : Nat} {E : St → XK} {p pos : Pos} {fe e : Expr} {es : List Expr} {tf : TE} {t : TA}
theorem pe_callE {S : Addr → Option Sp} (hf : PE X fe tf) (A : ∀ f sp, S f = some sp → HeldX X.prog X.w X.K X.mg X.base CX k f sp) (hr : Room k X.A) (hx : ∀ σ, PassesAt CX X σ (E σ)) (ha : PA X (e :: es) t)
    (ht : eval (.Call fe (e :: es) [] pos) X.env = (do callWith pos (← eval fe X.env) [] (backTo pos (starEach (e :: es) X.env)) (backToKw pos (keywordEach [] X.env))) := by rfl)
    (he : starEach (e :: es) X.env = (false, eval e X.env) :: starEach es X.env := by rfl) (hpl : (backTo pos (starEach es X.env)).any (·.1) = false := by rfl) : PE X (.Call fe (e :: es) [] pos) (tCallE S E tf t) := by
  refine ⟨fun pins s σ H Q I h => ?_⟩
  refine Call_ (thn (hf.run pins s σ H _ I h) fun u s1 ⟨y, H1, I1, ry, f, sp, ey, hS, q⟩ => ?_) ht
  subst ey
  obtain rfl : u = Value.ref f := ry
  obtain ⟨fd, ps, F, hk, hb⟩ := (A f sp hS).ex
  refine PySem.W.callWith_K (h₀ := X.base) I.ok.mod.kin hk (thn (ha.run pos pins s1 σ H1 _ I1 q) fun us s2 ⟨vs, H2, I2, r, q2⟩ => ⟨I2.kIn, ?_⟩) he hpl
  exact run_fnS F hr hb (hx σ) I2 r q2
end
end L2

namespace T
open PySem PySem.Spec PyProof.Rows L2
def SameBut (a : Addr) (H H' : Hp) : Prop := ∀ b o, b ≠ a → H b = some o → H' b = some o
theorem SameBut.refl (a : Addr) (H : Hp) : SameBut a H H := fun _ _ _ h => h
theorem SameBut.trans {a : Addr} {H H1 H2 : Hp} (x : SameBut a H H1) (y : SameBut a H1 H2) : SameBut a H H2 := fun b o n h => y b o n (x b o n h)
theorem SameBut.upd {a : Addr} {H : Hp} {o : HO} : SameBut a H (upd H a o) := fun b u n h => by rw [upd_ne n]; exact h
theorem SameBut.new {a p : Addr} {H : Hp} {o : HO} (h : H p = none) : SameBut a H (L2.upd H p o) := fun b u n e => by rw [upd_ne (ne_of_none e h)]; exact e
theorem Same.but {a : Addr} {H H' : Hp} (h : Same H H') : SameBut a H H' := fun b o _ e => h b o e
theorem same_upd {H : Hp} {p : Addr} {o : HO} (h : H p = none) : Same H (upd H p o) := fun b x e => by
  rw [upd_ne (ne_of_none e h)]
  exact e
theorem upd_self {H : Hp} {a : Addr} {o : HO} (h : H a = some o) : upd H a o = H := by
  funext b
  unfold upd
  by_cases e : b = a
  · rw [if_pos e, e, h]
  · rw [if_neg e]
theorem Same.mut {H H' : Hp} {p : Addr} {o : HO} (e : Same H H') (h : H p = none) : Same H (upd H' p o) := fun a u ha => by
  rw [upd_ne (ne_of_none ha h)]
  exact e a u ha
theorem map_int_get {ns : List Int} {i : Nat} {y : V} (hi : (ns.map V.int)[i]? = some y) : ∃ z, ns[i]? = some z ∧ y = V.int z := by
  rw [List.getElem?_map] at hi
  cases e : ns[i]? with
  | none =>
    rw [e] at hi
    cases hi
  | some z =>
    rw [e] at hi
    exact ⟨z, rfl, (Option.some.inj hi).symm⟩
theorem small_of {n : Nat} (h : n ≤ 100000) : n < sizeLine := Nat.lt_of_le_of_lt h (by decide)
structure ErrC (K : PySem.W.Frag) (mg : Str → Option Value) (x : Str) (C : Addr) : Prop where
  gc : mg x = some (.ref C)
  xC : PySem.W.excIn K C [.type "ValueError", .type "Exception", .type "BaseException", .type "object"] "ValueError.__new__" = true
  kc : PySem.W.keepIn K (.ref C) = true
  bc : PySem.W.subIn K (.ref C) (.type "BaseException") = some true
  tc : PySem.W.typeIn K (.ref C) = some (.type "type")
/-- a def whose defaults stand somewhere (called with all its arguments) -/
structure FunA (K : PySem.W.Frag) (x qual : Str) (st : Stmt) (f : Addr) (fd : FuncData) : Prop where
  ex : ∃ (oc : Value) (od : Option Addr) (dV kV doc pm : Value) (an : Option Addr) (cdv ct : Value) (osl : Array (Option Value)),
    fd = PySem.W.fnOf x qual (defArgs st) (defBody st) (defScope st) dV kV doc pm an cdv ct ∧ K.lookup f = some ⟨oc, od, .func fd, osl⟩ ∧ PySem.W.codeIn K cdv qual = true
  kp : PySem.W.keepIn K (.ref f) = true
section
variable {P : Program} {w : World} {K : PySem.W.Frag} {mg : Str → Option Value} {base : Heap}
theorem FunA.okX {x qual : Str} {st : Stmt} {f : Addr} {fd : FuncData} {N ps : List Str} {k : Nat} {sp : Sp} (F : FunA K x qual st f fd) (S : FnScope N ps (defScope st)) (len : ∀ vs H Q E, sp vs H Q E → vs.length = ps.length)
    (hbody : ∀ (cdv : Value) (A : Around) (outer : List Env) (s : Shared) (H : Hp) (vs : List V) (Q : VK) (E : XK), Room k (A.deeper (envOfC qual (defScope st) s.heap.objs.size f cdv)) → sp vs H Q E →
      ∃ t, PSs (cxOf (L2.CX P w) P w K mg base N qual (defScope st) f cdv A outer s H E) (defBody st) t ∧ t { nx := fun _ H' => Q .non H', rt := Q } (start N vs) H) : FnOk P w K mg base (L2.CX P w) (k + 1) f fd ps sp := by
  obtain ⟨oc, od, dV, kV, doc, pm, an, cdv, ct, osl, rfl, lk, hcd⟩ := F.ex
  exact fn_of lk hcd S len fun A outer s H vs Q E hr hsp => hbody cdv A outer s H vs Q E hr hsp
end
theorem if_pos_of {b : Bool} {A B : Prop} (h : b = true) (x : A) : if b = true then A else B := by
  rw [if_pos h]
  exact x
theorem if_neg_of {b : Bool} {A B : Prop} (h : ¬ b = true) (x : B) : if b = true then A else B := by
  rw [if_neg h]
  exact x
theorem sqT_same {K : PySem.W.Frag} {H H' : Hp} {a : Addr} {xs : List V} (e : Same H H') (h : SqT K H a xs) : SqT K H' a xs := by
  rcases h with (h | ⟨o, h⟩) | h
  · exact .inl (.inl (e _ _ h))
  · exact .inl (.inr ⟨o, e _ _ h⟩)
  · exact .inr h
section
variable {P : Program} {w : World} {K : PySem.W.Frag} {mg : Str → Option Value} {base : Heap}
theorem room64 {k : Nat} {A : Around} (hr : Room k A) : A.units + 64 < cLine := by have := hr.un; omega
theorem room65 {k : Nat} {A : Around} (hr : Room k A) : A.units + 65 < cLine := by have := hr.un; omega
theorem inV_primes {p : Int} : inV (.int p) [.int 2, .int 3, .int 5, .int 7, .int 11, .int 13, .int 17, .int 19, .int 23, .int 29, .int 31] = inV (.int p) (primes.map V.int) := rfl
end
theorem sqT_but {K : PySem.W.Frag} {H H' : Hp} {r a : Addr} {xs : List V} (e : SameBut r H H') (n : a ≠ r) (h : SqT K H a xs) : SqT K H' a xs := by
  rcases h with (h | ⟨o, h⟩) | h
  · exact .inl (.inl (e _ _ n h))
  · exact .inl (.inr ⟨o, e _ _ n h⟩)
  · exact .inr h
theorem at_tab {xs : List Int} {i : Int} (h0 : 0 ≤ i) (h1 : i < xs.length) : atI (xs.map V.int) i = some (.int (xs.getD i.toNat 0)) := by
  obtain ⟨n, rfl⟩ := Int.eq_ofNat_of_zero_le h0
  have hn : n < xs.length := by omega
  refine atI_nat ?_
  rw [List.getElem?_map, List.getElem?_eq_getElem hn, List.getD_eq_getElem?_getD, show ((n : Nat) : Int).toNat = n from rfl, List.getElem?_eq_getElem hn]
  rfl
theorem mod_lt8 (n : Int) {m : Int} (h : 0 < m) : 0 ≤ n % m ∧ n % m < m := ⟨Int.emod_nonneg _ (by omega), Int.emod_lt_of_pos _ h⟩
def wtab : List Int := [0, 0, 0, 2, 3, 5, 7, 31]
theorem wtab_in : ∀ k : Nat, k < 8 → wtab.getD k 0 = 0 ∨ (wtab.getD k 0 ≠ 0 ∧ inV (.int (wtab.getD k 0)) (primes.map V.int) = true ∧ 2 ≤ wtab.getD k 0) := by decide
/-! ### isinstance of the error that an except suite holds -/
def rIsE' (K : PySem.W.Frag) (cls : Value) (d : Option Addr) (a : Addr) : List V → Hp → VK → Prop := fun xs H Q => ∃ D : Addr, cls = .ref D ∧ d = none ∧ ExcC K D ∧ rIsE K D a xs H Q
theorem call_isE' {X : Cx} {a : Addr} {oe : Obj} {pn : List (Addr × Obj)} {cls : Value} {d : Option Addr} (hz : Zc cls d oe) (hf : ∃ vs, oe.data = .fields vs) : CallR (X.suite a ((a, oe) :: pn)) (.builtin "isinstance") (rIsE' X.K cls d a) := by
  intro pins s σ H xs us Q I r h
  obtain ⟨D, rfl, rfl, C, h⟩ := h
  exact call_isE C hz hf pins s σ H xs us Q I r h
theorem pe_indexK {X : Cx} {K : PySem.W.Frag} {o e : Expr} {to : TE} {t : TA} {apos cpos : Pos} (hK : X.K = K) (ho : PE X o to) (ha : PA X [e] t)
    (hb : attributeBase o "index" X.env (eval o X.env) = eval o X.env := by rfl)
    (hf : ((backTo cpos (starEach [e] X.env)).all (fun x => !x.1) && (backToKw cpos (keywordEach [] X.env)).all (fun x => x.1.isSome) && decide ([e].length + ([] : List Keyword).length + (if ([] : List Keyword).isEmpty then 0 else 1) < 30)) = true := by rfl)
    (hl : (apos.endLine == cpos.line) = true := by rfl) (hs : starEach [e] X.env = (false, eval e X.env) :: starEach [] X.env := by rfl) (hp : (backTo cpos (starEach [] X.env)).any (·.1) = false := by rfl) :
    PE X (.Call (.Attribute o "index" apos) [e] [] cpos) (tBM K "list" (rIndex K) to t) := by
  subst hK
  exact pe_bm PySem.F.plainAttrs_list PySem.F.slot_list_index PySem.F.type_list_index mt_index ho ha hb hf hl hs hp
/-! ### values without depth -/
inductive Val1 (H : Hp) : V → PyData → Prop
  | non : Val1 H .non .none
  | bl (b : Bool) : Val1 H (.bl b) (.bool b)
  | str (x : Str) : Val1 H (.str x) (.str x)
  | pair {t : Addr} {u v : Int} : H t = some (.tup [.int u, .int v]) → Val1 H (.ref t) (.tuple [.int u, .int v])
theorem Val1.dp {K : PySem.W.Frag} {H : Hp} {x : V} {d : PyData} (h : Val1 H x d) : Dp K H x d := by
  cases h with
  | non => exact .non
  | bl b => exact .bl b
  | str x => exact .str x
  | pair h => exact .tup (.inl (.inl h)) (.cons (.int _) (.cons (.int _) .nil))
theorem Val1.but {H H' : Hp} {D : Addr} {ys : List V} {x : V} {d : PyData} (s : SameBut D H H') (hD : H D = some (.lst ys)) (h : Val1 H x d) : Val1 H' x d := by
  cases h with
  | non => exact .non
  | bl b => exact .bl b
  | str x => exact .str x
  | pair h => exact .pair (s _ _ (ne_of h hD (fun z => nomatch z)) h)
theorem Val1.same {H H' : Hp} {x : V} {d : PyData} (s : Same H H') (h : Val1 H x d) : Val1 H' x d := by
  cases h with
  | non => exact .non
  | bl b => exact .bl b
  | str x => exact .str x
  | pair h => exact .pair (s _ _ h)
theorem vals1_dp {K : PySem.W.Frag} {H : Hp} : ∀ {xs : List V} {ds : List PyData}, Paired (Val1 H) xs ds → DpAll K H xs ds
  | _, _, .nil => .nil
  | _, _, .cons a b => .cons a.dp (vals1_dp b)
theorem paired_snoc {α β : Type} {F : α → β → Prop} {a : α} {b : β} (h : F a b) : ∀ {l : List α} {m : List β}, Paired F l m → Paired F (l ++ [a]) (m ++ [b])
  | _, _, .nil => .cons h .nil
  | _, _, .cons x y => .cons x (paired_snoc h y)

/-- the first def of a class -/
def inCls : Stmt → Stmt
  | .ClassDef _ _ _ body _ _ _ _ _ _ _ => body.getD 0 (.Pass ⟨0, 0, 0, 0⟩)
  | s => s
theorem pt_truthK {X : Cx} {K : PySem.W.Frag} {a : Expr} {ta : TE} (hK : X.K = K) (ha : PE X a ta) (he : ∀ whole, isTrue a X.env whole = (do let v ← whole; standAt a.pos; holding [v] (truthy v))) :
    PT X a (fun σ H Q => ta σ H fun x H' => ∃ k, TruV K x H' k ∧ Q k H') := by
  subst hK
  exact pt_truth ha he
theorem op_in_seqK {X : Cx} {K : PySem.W.Frag} (hK : X.K = K) : OpR X (compareOp .In) (rIn K false) := by
  subst hK
  exact op_in_seq
theorem op_notIn_seqK {X : Cx} {K : PySem.W.Frag} (hK : X.K = K) : OpR X (compareOp .NotIn) (rIn K true) := by
  subst hK
  exact op_notIn_seq
theorem pi_listK {X : Cx} {K : PySem.W.Frag} {tg e : Expr} {te : TE} (hK : X.K = K) (he : PE X e te) : PI X tg e (iList K te) := by
  subst hK
  exact pi_list he

def topS (i : Nat) : Stmt := PySem.Challenge.pw_threadworth_k07_whole_falling_products.main.body.getD i (.Pass ⟨0, 0, 0, 0⟩)
abbrev s_is_poly : Stmt := topS 10
theorem sc_is_poly : FnScope ["poly"] ["poly"] (defScope s_is_poly) := ⟨rfl, rfl, rfl, by decide +kernel, rfl, by decide +kernel, by decide +kernel⟩
abbrev s_check_poly : Stmt := topS 11
theorem sc_check_poly : FnScope ["poly"] ["poly"] (defScope s_check_poly) := ⟨rfl, rfl, rfl, by decide +kernel, rfl, by decide +kernel, by decide +kernel⟩
abbrev s_multiplied_polys : Stmt := topS 12
theorem sc_multiplied_polys : FnScope ["one", "other", "parts", "i", "left", "j", "right"] ["one", "other"] (defScope s_multiplied_polys) := ⟨rfl, rfl, rfl, by decide +kernel, rfl, by decide +kernel, by decide +kernel⟩
abbrev s_split_off_ : Stmt := topS 13
theorem sc_split_off_ : FnScope ["parts", "x", "sums", "worth", "part"] ["parts", "x"] (defScope s_split_off_) := ⟨rfl, rfl, rfl, by decide +kernel, rfl, by decide +kernel, by decide +kernel⟩
abbrev s_value_at : Stmt := topS 14
theorem sc_value_at : FnScope ["poly", "x", "_", "worth"] ["poly", "x"] (defScope s_value_at) := ⟨rfl, rfl, rfl, by decide +kernel, rfl, by decide +kernel, by decide +kernel⟩
abbrev s_roots : Stmt := topS 15
theorem sc_roots : FnScope ["poly", "most", "found", "x", "many"] ["poly", "most"] (defScope s_roots) := ⟨rfl, rfl, rfl, by decide +kernel, rfl, by decide +kernel, by decide +kernel⟩
abbrev s_root_count_ : Stmt := topS 16
theorem sc_root_count_ : FnScope ["poly", "x", "many", "quotient", "worth"] ["poly", "x"] (defScope s_root_count_) := ⟨rfl, rfl, rfl, by decide +kernel, rfl, by decide +kernel, by decide +kernel⟩
abbrev s_check_count_ : Stmt := topS 17
theorem sc_check_count_ : FnScope ["count"] ["count"] (defScope s_check_count_) := ⟨rfl, rfl, rfl, by decide +kernel, rfl, by decide +kernel, by decide +kernel⟩
abbrev s_falling : Stmt := topS 18
theorem sc_falling : FnScope ["count", "product", "k"] ["count"] (defScope s_falling) := ⟨rfl, rfl, rfl, by decide +kernel, rfl, by decide +kernel, by decide +kernel⟩
abbrev s_rising : Stmt := topS 19
theorem sc_rising : FnScope ["count", "product", "k"] ["count"] (defScope s_rising) := ⟨rfl, rfl, rfl, by decide +kernel, rfl, by decide +kernel, by decide +kernel⟩
abbrev s_power_of_d : Stmt := topS 20
theorem sc_power_of_d : FnScope ["count"] ["count"] (defScope s_power_of_d) := ⟨rfl, rfl, rfl, by decide +kernel, rfl, by decide +kernel, by decide +kernel⟩
abbrev s_by_falling : Stmt := topS 21
theorem sc_by_falling : FnScope ["poly", "found", "rest", "k", "worth"] ["poly"] (defScope s_by_falling) := ⟨rfl, rfl, rfl, by decide +kernel, rfl, by decide +kernel, by decide +kernel⟩
abbrev s_law_plain : Stmt := topS 23
theorem sc_law_plain : FnScope ["cell"] ["cell"] (defScope s_law_plain) := ⟨rfl, rfl, rfl, by decide +kernel, rfl, by decide +kernel, by decide +kernel⟩
abbrev s_law_draws : Stmt := topS 24
theorem sc_law_draws : FnScope ["script", "draws", "cell", "rest", "k", "once", "twice"] ["script"] (defScope s_law_draws) := ⟨rfl, rfl, rfl, by decide +kernel, rfl, by decide +kernel, by decide +kernel⟩
abbrev s_law_next : Stmt := topS 25
theorem sc_law_next : FnScope ["draws"] ["draws"] (defScope s_law_next) := ⟨rfl, rfl, rfl, by decide +kernel, rfl, by decide +kernel, by decide +kernel⟩
abbrev s_law_cut : Stmt := topS 26
theorem sc_law_cut : FnScope ["parts", "size", "j"] ["parts"] (defScope s_law_cut) := ⟨rfl, rfl, rfl, by decide +kernel, rfl, by decide +kernel, by decide +kernel⟩
abbrev s_law_poly : Stmt := topS 27
theorem sc_law_poly : FnScope ["draws", "most", "j"] ["draws", "most"] (defScope s_law_poly) := ⟨rfl, rfl, rfl, by decide +kernel, rfl, by decide +kernel, by decide +kernel⟩
abbrev s_law_value : Stmt := topS 28
theorem sc_law_value : FnScope ["poly", "x", "total", "factor", "part"] ["poly", "x"] (defScope s_law_value) := ⟨rfl, rfl, rfl, by decide +kernel, rfl, by decide +kernel, by decide +kernel⟩
abbrev s_law_times : Stmt := topS 29
theorem sc_law_times : FnScope ["one", "other", "parts", "i", "j"] ["one", "other"] (defScope s_law_times) := ⟨rfl, rfl, rfl, by decide +kernel, rfl, by decide +kernel, by decide +kernel⟩
abbrev s_law_plus : Stmt := topS 30
theorem sc_law_plus : FnScope ["one", "other", "parts", "poly", "j"] ["one", "other"] (defScope s_law_plus) := ⟨rfl, rfl, rfl, by decide +kernel, rfl, by decide +kernel, by decide +kernel⟩
abbrev s_law_refuses : Stmt := topS 31
theorem sc_law_refuses : FnScope ["way", "count"] ["way", "count"] (defScope s_law_refuses) := ⟨rfl, rfl, rfl, by decide +kernel, rfl, by decide +kernel, by decide +kernel⟩
abbrev s_law : Stmt := topS 32
theorem sc_law : FnScope ["script", "draws", "count", "due", "j", "poly", "told", "total", "x", "many", "way", "part"] ["script"] (defScope s_law) := ⟨rfl, rfl, rfl, by decide +kernel, rfl, by decide +kernel, by decide +kernel⟩
structure SmL (n k : Nat) (D : PyData) : Prop where
  lay : D.canLay0 = true
  dep : D.depth ≤ n
  sho : D.showable = true
  wgt : wt D ≤ k
theorem smL_all {n k : Nat} : ∀ {ds : List PyData}, (∀ D ∈ ds, SmL n k D) → PyData.canLayAll0 ds = true ∧ PyData.depthAll ds ≤ n ∧ PyData.showableAll ds = true ∧ wtAll ds ≤ (k + 2) * ds.length
  | [], _ => ⟨by simp [PyData.canLayAll0], by simp [PyData.depthAll], by simp [PyData.showableAll], by simp [wtAll]⟩
  | D :: ds, h => by
    obtain ⟨h1, h2, h3, h4⟩ := smL_all (ds := ds) fun E hE => h E (List.mem_cons_of_mem _ hE)
    have g := h D List.mem_cons_self
    refine ⟨by simp [PyData.canLayAll0, g.lay, h1], ?_, by simp [PyData.showableAll, g.sho, h3], ?_⟩
    · simp only [PyData.depthAll]
      have := g.dep
      omega
    · simp only [wtAll, List.length_cons, Nat.mul_add]
      have := g.wgt
      omega
theorem smL_list {n k : Nat} {ds : List PyData} (h : ∀ D ∈ ds, SmL n k D) : SmL (n + 1) ((k + 2) * ds.length + 3) (.list ds) := by
  obtain ⟨h1, h2, h3, h4⟩ := smL_all h
  exact ⟨by simp [PyData.canLay0, h1], by simp only [PyData.depth]; omega, by simp [PyData.showable, h3], by simp only [wt]; omega⟩
theorem smL_tuple {n k : Nat} {ds : List PyData} (h : ∀ D ∈ ds, SmL n k D) : SmL (n + 1) ((k + 2) * ds.length + 3) (.tuple ds) := by
  obtain ⟨h1, h2, h3, h4⟩ := smL_all h
  exact ⟨by simp [PyData.canLay0, h1], by simp only [PyData.depth]; omega, by simp [PyData.showable, h3], by simp only [wt]; omega⟩
theorem SmL.shaped {n k : Nat} {D : PyData} (h : SmL n k D) (hn : n ≤ 64) : SeqAt.shaped D = true := by
  show (PyData.canLay0 D && decide (PyData.depth D ≤ 64)) = true
  rw [h.lay, decide_eq_true (Nat.le_trans h.dep hn)]
  rfl
theorem SmL.wide {n k : Nat} {D : PyData} (h : SmL n k D) (hk : k ≤ 16777216) : wt D ≤ sizeLine := by
  rw [sizeLine_eq]
  exact Nat.le_trans h.wgt hk
theorem small_log {i : Int} (h : i.natAbs < 2 ^ 200) : i.natAbs.log2 < 1920 := by
  by_cases e : i.natAbs = 0
  · rw [e]
    decide
  · exact (Nat.log2_lt e).mpr (Nat.lt_of_lt_of_le h (Nat.pow_le_pow_right (by decide) (by decide)))
theorem smL_int {i : Int} (h : i.natAbs < 2 ^ 200) : SmL 0 1921 (.int i) := ⟨by simp [PyData.canLay0], by simp [PyData.depth], by simp [PyData.showable, small_log h], by simp only [wt]; omega⟩
theorem smL_pair {u v : Int} (hu : u.natAbs < 2 ^ 200) (hv : v.natAbs < 2 ^ 200) : SmL 1 4000 (.tuple [.int u, .int v]) := by
  have h := smL_tuple (ds := [.int u, .int v]) (n := 0) (k := 1921) fun D hD => by
    rcases List.mem_cons.mp hD with rfl | hD
    · exact smL_int hu
    · rcases List.mem_cons.mp hD with rfl | hD
      · exact smL_int hv
      · cases hD
  exact ⟨h.lay, h.dep, h.sho, Nat.le_trans h.wgt (by show (1921 + 2) * 2 + 3 ≤ 4000; decide)⟩
theorem ok_n : PyData.strOk ("!n" : Str) = true := by decide +kernel
theorem ok_b : PyData.strOk ("!b" : Str) = true := by decide +kernel
theorem ok_w : PyData.strOk ("!w" : Str) = true := by decide +kernel
theorem rl_n : (reprText ("!n" : Str)).length = 4 := by decide +kernel
theorem rl_b : (reprText ("!b" : Str)).length = 4 := by decide +kernel
theorem rl_w : (reprText ("!w" : Str)).length = 4 := by decide +kernel
theorem smL_n : SmL 1 4000 (.str "!n") := ⟨by simp [PyData.canLay0, ok_n], by simp [PyData.depth], by simp [PyData.showable], by simp only [wt, rl_n]; omega⟩
theorem smL_b : SmL 1 4000 (.str "!b") := ⟨by simp [PyData.canLay0, ok_b], by simp [PyData.depth], by simp [PyData.showable], by simp only [wt, rl_b]; omega⟩
theorem smL_w : SmL 1 4000 (.str "!w") := ⟨by simp [PyData.canLay0, ok_w], by simp [PyData.depth], by simp [PyData.showable], by simp only [wt, rl_w]; omega⟩
theorem smL_non : SmL 1 4000 .none := ⟨by simp [PyData.canLay0], by simp [PyData.depth], by simp [PyData.showable], by simp only [wt]; omega⟩
theorem smL_bool (b : Bool) : SmL 1 4000 (.bool b) := ⟨by simp [PyData.canLay0], by simp [PyData.depth], by simp [PyData.showable], by simp only [wt]; omega⟩

section
variable {P : Program} {w : World} {K : PySem.W.Frag} {mg : Str → Option Value} {base : Heap}
/-! ### _law_plain -/
def spPlain : Sp := fun vs H Q _ => ∃ n : Int, vs = [.int n] ∧ Q (.int (if n < 0 then -n else n)) H
theorem ok_plain {f : Addr} {fd : FuncData} (F : Fun K "_law_plain" "_law_plain" s_law_plain f fd) : FnOk P w K mg base CX0 1 f fd ["cell"] spPlain := by
  refine F.ok sc_law_plain (fun vs H Q E h => ?_) (fun cdv A outer s H vs Q E hr h => ?_)
  · obtain ⟨n, rfl, _⟩ := h
    rfl
  · obtain ⟨n, rfl, q⟩ := h
    refine ⟨_, (pss_cons (ps_if (pt_cmpR op_lt (pv 0) pe_int (nomark _)) (pss_one (ps_ret (pe_op op_sub pe_int (pv 0)))) pss_nil)
  (pss_one (ps_ret (pv 0))))
    , ?_⟩
    refine ⟨_, rfl, _, _, rfl, rfl, _, rfl, ite2 (fun e => ?_) (fun e => ?_)⟩
    · rw [if_pos (of_decide_eq_true e)] at q
      have q' : Q (.int (0 - n)) H := by
        rw [show (0 : Int) - n = -n by omega]
        exact q
      exact ⟨_, rfl, _, _, rfl, rfl, q'⟩
    · rw [if_neg (fun z => e (decide_eq_true z))] at q
      exact ⟨_, rfl, q⟩
end

section
variable {P : Program} {w : World} {K : PySem.W.Frag} {mg : Str → Option Value} {base : Heap}
/-! ### _law_next -/
def spNext : Sp := fun vs H Q _ => ∃ (a : Addr) (ds : List Int), vs = [.ref a] ∧ H a = some (.lst (ds.map V.int)) ∧ ∀ (n : Int) (ds' : List Int), Q (.int n) (upd H a (.lst (ds'.map V.int)))
theorem ok_next {f : Addr} {fd : FuncData} (F : Fun K "_law_next" "_law_next" s_law_next f fd) : FnOk P w K mg base CX0 1 f fd ["draws"] spNext := by
  refine F.ok sc_law_next (fun vs H Q E h => ?_) (fun cdv A outer s H vs Q E hr h => ?_)
  · obtain ⟨a, ds, rfl, _⟩ := h
    rfl
  · obtain ⟨a, ds, rfl, hL, q⟩ := h
    refine ⟨_, (pss_cons (ps_if (pt_truth (pv 0) (by intro _; rfl)) (pss_one (ps_ret (pe_bm0 PySem.F.plainAttrs_list PySem.F.slot_list_pop PySem.F.type_list_pop mt_pop (pv 0)))) pss_nil)
  (pss_one (ps_ret pe_int)))
    , ?_⟩
    refine ⟨_, rfl, _, .inl ⟨_, .inl (.inl hL), rfl⟩, ite2 (fun e => ?_) (fun e => ?_)⟩
    · have hn : ds ≠ [] := fun z => by subst z; cases e
      have hm : ds.map V.int = ds.dropLast.map V.int ++ [V.int (ds.getLast hn)] := by
        rw [← List.map_singleton, ← List.map_append, List.dropLast_concat_getLast]
      refine ⟨_, rfl, .inl ⟨rfl, _, .inl (.inl hL)⟩, a, _, .int (ds.getLast hn), rfl, rfl, hL, ?_, ?_⟩
      · rw [hm]; simp
      · rw [hm, List.dropLast_concat]
        exact q _ _
    · have := q 0 ds
      rw [upd_self hL] at this
      exact this
end

section
variable {P : Program} {w : World} {K : PySem.W.Frag} {mg : Str → Option Value} {base : Heap}
/-! ### _law_draws -/
def spDraws (K : PySem.W.Frag) : Sp := fun vs H Q _ => ∃ (a : Addr) (ns : List Int), vs = [.ref a] ∧ SqL K H a (ns.map V.int) ∧ ns.length ≤ 63 ∧
  ∀ H' r (ds : List Int), Same H H' → H r = none → H' r = some (.lst (ds.map V.int)) → Q (.ref r) H'
theorem ok_draws {f : Addr} {fd : FuncData} {a_law_plain : Addr} {fd_law_plain : FuncData} (F : Fun K "_law_draws" "_law_draws" s_law_draws f fd) (z_range : mg "range" = none) (z_int : mg "int" = none)
    (G_law_plain : FnOk P w K mg base CX0 1 a_law_plain fd_law_plain ["cell"] spPlain) (g_law_plain : mg "_law_plain" = some (.ref a_law_plain)) (k_law_plain : PySem.W.keepIn K (.ref a_law_plain) = true) (b_law_plain : Binds K fd_law_plain ["cell"] []) :
    FnOk P w K mg base CX0 2 f fd ["script"] (spDraws K) := by
  refine F.ok sc_law_draws (fun vs H Q E h => ?_) (fun cdv A outer s H vs Q E hr h => ?_)
  · obtain ⟨n, _, rfl, _⟩ := h
    rfl
  · obtain ⟨a, ns, rfl, hS, hlen, q⟩ := h
    refine ⟨_, (pss_cons (ps_set (i := 1) sc_law_draws.nd rfl (.inl rfl) (pe_lst pa_nil))
  (pss_cons (ps_for PassesOwn.never rfl (pi_list (pv 0)) (pg_name (i := 2) sc_law_draws.nd rfl (.inl rfl)) (pss_cons (ps_set (i := 3) sc_law_draws.nd rfl (.inl rfl) (pe_call G_law_plain (hr.mono (by decide)) rfl g_law_plain k_law_plain b_law_plain .nil pass0 (pa_cons (pv 2) pa_nil)))
  (pss_one (ps_if (pt_cmpR op_ge (pv 3) pe_int (nomark _)) (pss_one (ps_for PassesOwn.never rfl (pi_range1 rfl z_range (pa_cons pe_int pa_nil)) (pg_name (i := 4) sc_law_draws.nd rfl (.inl rfl)) (pss_cons (ps_if (pt_cmpR op_eq (pv 3) pe_int (nomark _)) (pss_one ps_break) pss_nil)
  (pss_cons (ps_expr (pe_bm PySem.F.plainAttrs_list PySem.F.slot_list_append PySem.F.type_list_append mt_append (pv 1) (pa_cons (pe_op op_mod (pe_callTy call_int1 (by rfl) z_int boot_int (pa_cons (pv 3) pa_nil)) pe_int) pa_nil)))
  (pss_one (ps_set (i := 3) sc_law_draws.nd rfl (.inl rfl) (pe_op op_fdiv (pv 3) pe_int))))))) (pss_cons (ps_set (i := 5) sc_law_draws.nd rfl (.inl rfl) (pe_op op_mod (pe_callTy call_int1 (by rfl) z_int boot_int (pa_cons (pe_op op_add (pe_op op_mul (pv 3) pe_int) pe_int) pa_nil)) pe_int))
  (pss_cons (ps_set (i := 6) sc_law_draws.nd rfl (.inl rfl) (pe_op op_mod (pe_callTy call_int1 (by rfl) z_int boot_int (pa_cons (pe_op op_add (pe_op op_mul (pv 5) pe_int) (pv 3)) pa_nil)) pe_int))
  (pss_one (ps_expr (pe_bm PySem.F.plainAttrs_list PySem.F.slot_list_extend PySem.F.type_list_extend mt_extend (pv 1) (pa_cons (pe_lst (pa_cons (pe_op op_mod (pe_callTy call_int1 (by rfl) z_int boot_int (pa_cons (pv 3) pa_nil)) pe_int) (pa_cons (pe_op op_mod (pe_callTy call_int1 (by rfl) z_int boot_int (pa_cons (pv 5) pa_nil)) pe_int) (pa_cons (pe_op op_mod (pe_callTy call_int1 (by rfl) z_int boot_int (pa_cons (pv 6) pa_nil)) pe_int) pa_nil)))) pa_nil))))))))))
  (pss_one (ps_ret (pv 1)))))
    , ?_⟩
    refine ⟨Nat.zero_le _, fun o no => ?_⟩
    have s1 : Same H (upd H o (.lst [])) := same_upd no
    refine ⟨.ref a, rfl, a, rfl, ⟨_, s1.seq hS⟩, for_list (K := K) (a := a) (xs := ns.map V.int) (fun i σ H' => ∃ v2 v3 v4 v5 v6 ds, σ = [some (.ref a), some (.ref o), v2, v3, v4, v5, v6] ∧ Same H H' ∧ H' o = some (.lst (ds.map V.int)) ∧ ds.length ≤ 60 * i)
      ⟨none, none, none, none, none, [], rfl, s1, upd_same, Nat.le_refl _⟩ (fun i σ H' _ ⟨_, _, _, _, _, _, _, sm, _⟩ => sm.seq hS) ?_ ?_⟩
    · rintro i y σ H1 hi ⟨v2, v3, v4, v5, v6, ds, rfl, sm, hL, hl⟩
      have hi63 : i < 63 := by
        have := (List.getElem?_eq_some_iff.mp hi).1
        rw [List.length_map] at this
        omega
      obtain ⟨z, hz, rfl⟩ := map_int_get hi
      refine ⟨_, rfl, z, rfl, ?_⟩
      generalize hr0 : (if z < 0 then -z else z) = r0
      have h0 : 0 ≤ r0 := by
        subst hr0
        split <;> omega
      refine ⟨_, rfl, _, _, rfl, rfl, _, rfl, ite2 (fun e => ?_) (fun e => ?_)⟩
      · refine ⟨60, rfl, by decide, by decide, for_range (lo := 0) (n := 60) (fun j σ H' => ∃ r v4 ds', σ = [some (.ref a), some (.ref o), some (.int z), some (.int r), v4, v5, v6] ∧ 0 ≤ r ∧ Same H H' ∧ H' o = some (.lst (ds'.map V.int)) ∧ ds'.length ≤ 60 * i + j)
          ⟨r0, v4, ds, rfl, h0, sm, hL, hl⟩ ?_ ?_⟩
        · rintro j σ H2 hj ⟨r, v4', ds', rfl, hr0', sm2, hL2, hl2⟩
          refine ⟨_, rfl, rfl, _, rfl, ite2 (fun e1 => ?_) (fun e1 => ?_)⟩
          · exact ⟨_, _, _, _, _, ds', rfl, sm2, hL2, by omega⟩
          · refine ⟨.ref o, rfl, .inl ⟨rfl, _, .inl (.inl hL2)⟩, .int r, rfl, .inl ⟨r, rfl, r, 1000, rfl, rfl, (show (0:Int) < 1000 by decide), o, _, _, rfl, rfl, hL2, ?_, ?_⟩⟩
            · rw [List.length_map]
              exact small_of (by omega)
            · refine ⟨_, rfl, r, 1000, rfl, rfl, ⟨by decide, by decide⟩, ?_⟩
              refine ⟨r / 1000, _, ds' ++ [r % 1000], rfl, by omega, Same.mut sm2 no, ?_, ?_⟩
              · rw [upd_same, List.map_append]
                rfl
              · rw [List.length_append]
                show ds'.length + 1 ≤ _
                omega
        · rintro σ H2 ⟨r, v4', ds', rfl, hr0', sm2, hL2, hl2⟩
          exact ⟨_, _, _, _, _, ds', rfl, sm2, hL2, by omega⟩
      · have c1 : CMul r0 48271 := .inr ⟨by decide, by decide⟩
        refine ⟨.int r0, rfl, r0, 48271, rfl, rfl, c1, _, 11, rfl, rfl, .inl ⟨_, rfl, _, 2147483647, rfl, rfl, (show (0:Int) < 2147483647 by decide), ?_⟩⟩
        have c2 : ∀ x : Int, CMul x 69621 := fun _ => .inr ⟨by decide, by decide⟩
        refine ⟨_, rfl, _, 69621, rfl, rfl, c2 _, .int r0, rfl, _, r0, rfl, rfl, .inl ⟨_, rfl, _, 2147483629, rfl, rfl, (show (0:Int) < 2147483629 by decide), ?_⟩⟩
        have p1000 : (0:Int) < 1000 := by decide
        refine ⟨.ref o, rfl, .inl ⟨rfl, _, .inl (.inl hL)⟩, ?_⟩
        refine ⟨.int r0, rfl, .inl ⟨r0, rfl, r0, 1000, rfl, rfl, p1000, _, rfl, .inl ⟨_, rfl, _, 1000, rfl, rfl, p1000, _, rfl, .inl ⟨_, rfl, _, 1000, rfl, rfl, p1000, ?_⟩⟩⟩⟩
        refine ⟨(by show 3 ≤ sizeLine; decide), fun c nc => ?_⟩
        have hoc : o ≠ c := ne_of_none hL nc
        refine ⟨o, c, ds.map V.int, _, rfl, rfl, ?_, upd_same, ?_, ?_⟩
        · rw [upd_ne hoc]
          exact hL
        · rw [List.length_map]
          exact Nat.le_of_lt (small_of (show ds.length + 3 ≤ 100000 by omega))
        · refine ⟨_, _, _, _, _, ds ++ [r0 % 1000, (r0 * 48271 + 11) % 2147483647 % 1000, ((r0 * 48271 + 11) % 2147483647 * 69621 + r0) % 2147483629 % 1000], rfl, Same.mut (Same.trans sm (same_upd nc)) no, ?_, ?_⟩
          · rw [upd_same, List.map_append]
            rfl
          · rw [List.length_append]
            show ds.length + 3 ≤ _
            omega
    · rintro σ H1 ⟨v2, v3, v4, v5, v6, ds, rfl, sm, hL, hl⟩
      exact ⟨_, rfl, q H1 o ds sm no hL⟩
end

def isP (l : List Int) : Bool := if (l.length : Int) > 200 then false else if l.length = 0 then true else !decide (co l (l.length - 1) = 0)
theorem isP_pol {l : List Int} (h : isP l = true) : Pol l ∧ l.length ≤ 200 := by
  unfold isP at h
  by_cases c : (l.length : Int) > 200
  · rw [if_pos c] at h
    exact nomatch h
  rw [if_neg c] at h
  refine ⟨?_, by omega⟩
  by_cases c0 : l.length = 0
  · exact .inl (List.eq_nil_of_length_eq_zero c0)
  · rw [if_neg c0] at h
    refine .inr fun z => ?_
    rw [decide_eq_true z] at h
    exact nomatch h
theorem pol_isP {l : List Int} (h : Pol l) (hl : l.length ≤ 200) : isP l = true := by
  unfold isP
  rw [if_neg (by omega)]
  by_cases c0 : l.length = 0
  · rw [if_pos c0]
  · rw [if_neg c0]
    rcases h with rfl | h
    · exact absurd rfl c0
    · rw [decide_eq_false h]
      rfl
section
variable {P : Program} {w : World} {K : PySem.W.Frag} {mg : Str → Option Value} {base : Heap}
/-! ### is_poly, check_poly -/
def spIsPoly (K : PySem.W.Frag) : Sp := fun vs H Q _ => ∃ (a : Addr) (l : List Int), vs = [.ref a] ∧ SqT K H a (l.map V.int) ∧ Q (.bl (isP l)) H
theorem ok_is_poly {f : Addr} {fd : FuncData} {tm : Tok} (F : Fun K "is_poly" "is_poly" s_is_poly f fd) (z_len : mg "len" = none) (m_MOST_PARTS : mg "MOST_PARTS" = some (.int 200 tm)) : FnOk P w K mg base CX0 1 f fd ["poly"] (spIsPoly K) := by
  have r_MOST_PARTS : RelV (.int 200) (.int 200 tm) := ⟨_, rfl⟩
  refine F.ok sc_is_poly (fun vs H Q E h => ?_) (fun cdv A outer s H vs Q E hr h => ?_)
  · obtain ⟨a, l, rfl, _⟩ := h
    rfl
  · obtain ⟨a, l, rfl, ha, q⟩ := h
    refine ⟨_, (pss_cons (ps_if (pt_cmpR op_gt (pe_callB call_len_seq (by rfl) z_len boot_len (pa_cons (pv 0) pa_nil)) (pe_glob rfl m_MOST_PARTS r_MOST_PARTS) (nomark _)) (pss_one (ps_ret pe_bl)) pss_nil)
  (pss_one (ps_ret (pe_or (pe_cmpR op_eq (pe_callB call_len_seq (by rfl) z_len boot_len (pa_cons (pv 0) pa_nil)) pe_int (nomark _)) (pe_one (pe_cmpR op_ne (pe_ix ix_tup (pv 0) (pe_un un_neg pe_int) (fun _ _ => rfl)) pe_int (nomark _))))))), ?_⟩
    unfold isP at q
    refine ⟨_, rfl, a, _, rfl, .inr ha, _, _, rfl, rfl, _, rfl, ?_⟩
    rw [List.length_map]
    by_cases c : (l.length : Int) > 200
    · rw [if_pos c] at q
      rw [decide_eq_true c]
      exact iteT q
    rw [if_neg c] at q
    rw [decide_eq_false c]
    refine iteF ?_
    refine ⟨_, rfl, a, _, rfl, .inr ha, rfl, _, rfl, ?_⟩
    rw [List.length_map]
    by_cases c0 : l.length = 0
    · rw [if_pos c0] at q
      rw [decide_eq_true (show V.int ((l.length : Nat) : Int) = V.int 0 by rw [c0]; rfl)]
      exact iteT q
    · rw [if_neg c0] at q
      rw [decide_eq_false (fun z => c0 (by have := V.int.inj z; omega))]
      refine iteF ?_
      refine ⟨_, rfl, _, rfl, a, _, _, _, rfl, rfl, ha, at_end (fun z => c0 (by rw [z]; rfl)), rfl, ?_⟩
      have e : decide (V.int (co l (l.length - 1)) = V.int 0) = decide (co l (l.length - 1) = 0) := by
        by_cases c1 : co l (l.length - 1) = 0
        · rw [decide_eq_true c1, decide_eq_true (congrArg V.int c1)]
        · rw [decide_eq_false c1, decide_eq_false (fun z => c1 (V.int.inj z))]
      rw [e]
      exact q
def spCheckPoly (K : PySem.W.Frag) (CP : Addr) : Sp := fun vs H Q E => ∃ (a : Addr) (l : List Int), vs = [.ref a] ∧ SqT K H a (l.map V.int) ∧ (isP l = true → Q .non H) ∧ (isP l = false → E (.ref CP) none H)
theorem ok_check_poly {f CP a_is_poly : Addr} {fd fd_is_poly : FuncData} (F : Fun K "check_poly" "check_poly" s_check_poly f fd) (T : ErrC K mg "NotPoly" CP)
    (G_is_poly : FnOk P w K mg base CX0 1 a_is_poly fd_is_poly ["poly"] (spIsPoly K)) (g_is_poly : mg "is_poly" = some (.ref a_is_poly)) (k_is_poly : PySem.W.keepIn K (.ref a_is_poly) = true) (b_is_poly : Binds K fd_is_poly ["poly"] []) : FnOk P w K mg base (L2.CX P w) 2 f fd ["poly"] (spCheckPoly K CP) := by
  obtain ⟨gc_NotPoly, x_NotPoly, kc_NotPoly, bc_NotPoly, tc_NotPoly⟩ := T
  refine F.okX sc_check_poly (fun vs H Q E h => ?_) (fun cdv A outer s H vs Q E hr h => ?_)
  · obtain ⟨a, l, rfl, _⟩ := h
    rfl
  · obtain ⟨a, l, rfl, ha, q1, q2⟩ := h
    refine ⟨_, (pss_one (ps_if (pt_not (pt_val (pe_call G_is_poly (hr.mono (by decide)) rfl g_is_poly k_is_poly b_is_poly .nil pass0 (pa_cons (pv 0) pa_nil)))) (pss_one (ps_raise rfl (takes_of rfl rfl rfl rfl) (pmk_own PySem.F.excBase_ValueError x_NotPoly gc_NotPoly kc_NotPoly (raises_own bc_NotPoly tc_NotPoly) rfl))) pss_nil)), ?_⟩
    refine ⟨_, rfl, a, l, rfl, ha, _, rfl, ?_⟩
    cases e : isP l with
    | true => exact iteF (q1 e)
    | false => exact iteT (q2 e)
end

theorem sqL_same {K : PySem.W.Frag} {H H' : Hp} {a : Addr} {xs : List V} (e : Same H H') (h : SqL K H a xs) : SqL K H' a xs := by
  rcases h with (h | ⟨o, h⟩) | h
  · exact .inl (.inl (e _ _ h))
  · exact .inl (.inr ⟨o, e _ _ h⟩)
  · exact .inr h
theorem none_back {H H' : Hp} {a : Addr} (s : Same H H') (h : H' a = none) : H a = none := by
  cases e : H a with
  | none => rfl
  | some o =>
    rw [s _ _ e] at h
    exact nomatch h

theorem cut_to {l : List Int} {s : Nat} (h : s ≤ l.length) : cutV (l.map V.int) none (some (s : Int)) = (l.take s).map V.int := by
  unfold cutV
  rw [HT.sIx_none, HT.sIx_nat, List.length_map, Nat.min_eq_left h, List.drop_zero, Nat.sub_zero, ← List.map_take]
/-- no more than zeros from s on -/
def Zs (l : List Int) (s : Nat) : Prop := s ≤ l.length ∧ ∀ i, s ≤ i → co l i = 0
theorem zs_all (l : List Int) : Zs l l.length := ⟨Nat.le_refl _, fun i h => co_ge h⟩
theorem zs_less {l : List Int} {s : Nat} (h : Zs l s) (hs : 0 < s) (h0 : co l (s - 1) = 0) : Zs l (s - 1) := by
  obtain ⟨h1, h2⟩ := h
  refine ⟨by omega, fun i hi => ?_⟩
  by_cases c : i = s - 1
  · rw [c]
    exact h0
  · exact h2 i (by omega)
/-- what a trimmed tuple is -/
structure Tr (l zs : List Int) : Prop where
  pol : Pol zs
  co : ∀ k, co zs k = T.co l k
  len : zs.length ≤ l.length
theorem tr_of {l : List Int} {s : Nat} (h : Zs l s) (h0 : s = 0 ∨ co l (s - 1) ≠ 0) : Tr l (l.take s) :=
  ⟨pol_take h.1 h0 h.2, fun _ => co_take h.2, by rw [List.length_take]; omega⟩
/-- one row more, j entries of it -/
def part (one other : List Int) (i j k : Nat) : Int := conv one other i k + (if i ≤ k ∧ k - i < j then co one i * co other (k - i) else 0)
theorem part_0 (one other : List Int) (i k : Nat) : part one other i 0 k = conv one other i k := by
  unfold part
  rw [if_neg (by omega), Int.add_zero]
theorem part_end (one other : List Int) (i k : Nat) : part one other i other.length k = conv one other (i + 1) k := by
  show _ = conv one other i k + row one other i k
  unfold part row
  by_cases c : i ≤ k
  · rw [if_pos c]
    by_cases c2 : k - i < other.length
    · rw [if_pos ⟨c, c2⟩]
    · rw [if_neg (fun z => c2 z.2), co_ge (l := other) (by omega), Int.mul_zero]
  · rw [if_neg c, if_neg (fun z => c z.1)]
theorem part_step (one other : List Int) (i j k : Nat) : part one other i (j + 1) k = if k = i + j then part one other i j k + co one i * co other j else part one other i j k := by
  unfold part
  by_cases c : k = i + j
  · rw [if_pos c, if_pos (by omega), if_neg (by omega), show k - i = j by omega, Int.add_zero]
  · rw [if_neg c]
    by_cases c2 : i ≤ k ∧ k - i < j
    · rw [if_pos c2, if_pos (by omega)]
    · rw [if_neg c2, if_neg (by omega)]
def prodLen (l m : List Int) : Nat := if l = [] ∨ m = [] then 0 else l.length + m.length - 1
theorem conv_lead {l m : List Int} (hl : l ≠ []) (hm : m ≠ []) : conv l m l.length (l.length + m.length - 2) = co l (l.length - 1) * co m (m.length - 1) := by
  have h1 := List.length_pos_iff.mpr hl
  have h2 := List.length_pos_iff.mpr hm
  rw [show l.length = (l.length - 1) + 1 by omega]
  show conv l m (l.length - 1) (l.length - 1 + 1 + m.length - 2) + row l m (l.length - 1) (l.length - 1 + 1 + m.length - 2) = _
  rw [conv_top l m (l.length - 1) (by omega) (by omega)]
  unfold row
  rw [if_pos (by omega), show l.length - 1 + 1 + m.length - 2 - (l.length - 1) = m.length - 1 by omega, Int.zero_add]
  rfl

def spCut (K : PySem.W.Frag) : Sp := fun vs H Q _ => ∃ (a : Addr) (l : List Int), vs = [.ref a] ∧ SqL K H a (l.map V.int) ∧ l.length ≤ 10000 ∧ ∀ t zs H', Same H H' → H t = none → H' t = some (.tup (zs.map V.int)) → Tr l zs → Q (.ref t) H'
section
variable {P : Program} {w : World} {K : PySem.W.Frag} {mg : Str → Option Value} {base : Heap}
/-! ### _law_cut -/
theorem ok_law_cut {f : Addr} {fd : FuncData} (F : Fun K "_law_cut" "_law_cut" s_law_cut f fd) (z_len : mg "len" = none) (z_tuple : mg "tuple" = none) (z_range : mg "range" = none) : FnOk P w K mg base CX0 1 f fd ["parts"] (spCut K) := by
  refine F.ok sc_law_cut (fun vs H Q E h => ?_) (fun cdv A outer s H vs Q E hr h => ?_)
  · obtain ⟨a, l, rfl, _⟩ := h
    rfl
  · obtain ⟨a, l, rfl, ha, hl, q⟩ := h
    refine ⟨_, (pss_cons (ps_set (i := 1) sc_law_cut.nd rfl (.inl rfl) (pe_callB call_len_seq (by rfl) z_len boot_len (pa_cons (pv 0) pa_nil)))
  (pss_cons (ps_for PassesOwn.never rfl (pi_range1 rfl z_range (pa_cons (pe_callB call_len_seq (by rfl) z_len boot_len (pa_cons (pv 0) pa_nil)) pa_nil)) (pg_name (i := 2) sc_law_cut.nd rfl (.inl rfl)) (pss_one (ps_if (L2.PW.pt (pw_and (pt_cmpR op_gt (pv 1) pe_int (nomark _)) (pw_and1 (pt_cmpR op_eq (pe_ix ix_list (pv 0) (pe_op op_sub (pv 1) pe_int) (fun _ _ => rfl)) pe_int (nomark _))))) (pss_one (ps_set (i := 1) sc_law_cut.nd rfl (.inl rfl) (pe_op op_sub (pv 1) pe_int))) pss_nil)))
  (pss_one (ps_ret (pe_callTy call_tuple_of (by rfl) z_tuple boot_tuple (pa_cons (pe_slice sl_list (pv 0) po_none (po_some (pv 1))) pa_nil)))))), ?_⟩
    refine ⟨_, rfl, a, _, rfl, .inl ha, ?_⟩
    refine ⟨_, rfl, a, _, rfl, .inl ha, ?_⟩
    rw [List.length_map]
    refine ⟨_, rfl, by omega, by omega, for_range (lo := 0) (n := l.length) (fun i σ H' => H' = H ∧ ∃ (m : Nat) (v2 : Option V), σ = [some (.ref a), some (.int (m : Int)), v2] ∧ Zs l m ∧ ((m = 0 ∨ co l (m - 1) ≠ 0) ∨ m + i ≤ l.length))
      ⟨rfl, l.length, none, rfl, zs_all l, .inr (Nat.le_refl _)⟩ (fun i σ H' hi hP => ?_) (fun σ H' hP => ?_)⟩
    · obtain ⟨rfl, m, v2, rfl, hz, hd⟩ := hP
      refine ⟨_, rfl, _, _, rfl, rfl, _, rfl, ?_⟩
      by_cases c : 0 < m
      · rw [decide_eq_true (show ((m : Nat) : Int) > 0 by omega)]
        refine iteT ?_
        have es : ((m : Nat) : Int) - 1 = ((m - 1 : Nat) : Int) := by omega
        refine ⟨_, rfl, _, rfl, _, _, rfl, rfl, a, _, _, _, rfl, rfl, ha, (by rw [es]; exact at_co (show m - 1 < l.length by have := hz.1; omega)), rfl, _, rfl, ?_⟩
        by_cases c0 : co l (m - 1) = 0
        · rw [decide_eq_true (congrArg V.int c0)]
          refine iteT ⟨_, rfl, _, _, rfl, rfl, rfl, m - 1, _, (by rw [← es]; rfl), zs_less hz c c0, .inr ?_⟩
          rcases hd with (hd | hd) | hd
          · omega
          · exact absurd c0 hd
          · omega
        · rw [decide_eq_false (fun z => c0 (V.int.inj z))]
          exact iteF ⟨rfl, m, _, rfl, hz, .inl (.inr c0)⟩
      · rw [decide_eq_false (show ¬ ((m : Nat) : Int) > 0 by omega)]
        exact iteF (iteF ⟨rfl, m, _, rfl, hz, .inl (.inl (by omega))⟩)
    · obtain ⟨rfl, m, v2, rfl, hz, hd⟩ := hP
      have h0 : m = 0 ∨ co l (m - 1) ≠ 0 := hd.elim id (fun z => .inl (by omega))
      refine ⟨_, rfl, _, rfl, _, rfl, a, _, rfl, ha, fun p np => ⟨p, _, rfl, .inl ⟨.inl (.inl upd_same), fun t nt => ?_⟩⟩⟩
      refine q t (l.take m) _ (Same.trans (same_upd np) (same_upd nt)) (none_back (same_upd np) nt) ?_ (tr_of hz h0)
      rw [upd_same, cut_to hz.1]
end

def spCutT (K : PySem.W.Frag) : Sp := fun vs H Q _ => ∃ (a : Addr) (l : List Int), vs = [.ref a] ∧ SqT K H a (l.map V.int) ∧ l.length ≤ 10000 ∧ ∀ t zs H', Same H H' → SqT K H' t (zs.map V.int) → Tr l zs → Q (.ref t) H'
section
variable {P : Program} {w : World} {K : PySem.W.Frag} {mg : Str → Option Value} {base : Heap}
/-! ### _law_cut of a tuple -/
theorem ok_law_cutT {f : Addr} {fd : FuncData} (F : Fun K "_law_cut" "_law_cut" s_law_cut f fd) (z_len : mg "len" = none) (z_tuple : mg "tuple" = none) (z_range : mg "range" = none) : FnOk P w K mg base CX0 1 f fd ["parts"] (spCutT K) := by
  refine F.ok sc_law_cut (fun vs H Q E h => ?_) (fun cdv A outer s H vs Q E hr h => ?_)
  · obtain ⟨a, l, rfl, _⟩ := h
    rfl
  · obtain ⟨a, l, rfl, ha, hl, q⟩ := h
    refine ⟨_, (pss_cons (ps_set (i := 1) sc_law_cut.nd rfl (.inl rfl) (pe_callB call_len_seq (by rfl) z_len boot_len (pa_cons (pv 0) pa_nil)))
  (pss_cons (ps_for PassesOwn.never rfl (pi_range1 rfl z_range (pa_cons (pe_callB call_len_seq (by rfl) z_len boot_len (pa_cons (pv 0) pa_nil)) pa_nil)) (pg_name (i := 2) sc_law_cut.nd rfl (.inl rfl)) (pss_one (ps_if (L2.PW.pt (pw_and (pt_cmpR op_gt (pv 1) pe_int (nomark _)) (pw_and1 (pt_cmpR op_eq (pe_ix ix_tup (pv 0) (pe_op op_sub (pv 1) pe_int) (fun _ _ => rfl)) pe_int (nomark _))))) (pss_one (ps_set (i := 1) sc_law_cut.nd rfl (.inl rfl) (pe_op op_sub (pv 1) pe_int))) pss_nil)))
  (pss_one (ps_ret (pe_callTy call_tuple_of (by rfl) z_tuple boot_tuple (pa_cons (pe_slice sl_tupA (pv 0) po_none (po_some (pv 1))) pa_nil)))))), ?_⟩
    refine ⟨_, rfl, a, _, rfl, .inr ha, ?_⟩
    refine ⟨_, rfl, a, _, rfl, .inr ha, ?_⟩
    rw [List.length_map]
    refine ⟨_, rfl, by omega, by omega, for_range (lo := 0) (n := l.length) (fun i σ H' => H' = H ∧ ∃ (m : Nat) (v2 : Option V), σ = [some (.ref a), some (.int (m : Int)), v2] ∧ Zs l m ∧ ((m = 0 ∨ co l (m - 1) ≠ 0) ∨ m + i ≤ l.length))
      ⟨rfl, l.length, none, rfl, zs_all l, .inr (Nat.le_refl _)⟩ (fun i σ H' hi hP => ?_) (fun σ H' hP => ?_)⟩
    · obtain ⟨rfl, m, v2, rfl, hz, hd⟩ := hP
      refine ⟨_, rfl, _, _, rfl, rfl, _, rfl, ?_⟩
      by_cases c : 0 < m
      · rw [decide_eq_true (show ((m : Nat) : Int) > 0 by omega)]
        refine iteT ?_
        have es : ((m : Nat) : Int) - 1 = ((m - 1 : Nat) : Int) := by omega
        refine ⟨_, rfl, _, rfl, _, _, rfl, rfl, a, _, _, _, rfl, rfl, ha, (by rw [es]; exact at_co (show m - 1 < l.length by have := hz.1; omega)), rfl, _, rfl, ?_⟩
        by_cases c0 : co l (m - 1) = 0
        · rw [decide_eq_true (congrArg V.int c0)]
          refine iteT ⟨_, rfl, _, _, rfl, rfl, rfl, m - 1, _, (by rw [← es]; rfl), zs_less hz c c0, .inr ?_⟩
          rcases hd with (hd | hd) | hd
          · omega
          · exact absurd c0 hd
          · omega
        · rw [decide_eq_false (fun z => c0 (V.int.inj z))]
          exact iteF ⟨rfl, m, _, rfl, hz, .inl (.inr c0)⟩
      · rw [decide_eq_false (show ¬ ((m : Nat) : Int) > 0 by omega)]
        exact iteF (iteF ⟨rfl, m, _, rfl, hz, .inl (.inl (by omega))⟩)
    · obtain ⟨rfl, m, v2, rfl, hz, hd⟩ := hP
      have h0 : m = 0 ∨ co l (m - 1) ≠ 0 := hd.elim id (fun z => .inl (by omega))
      refine ⟨_, rfl, _, rfl, _, rfl, a, _, rfl, ha, fun hw => ?_, fun hw p np => ?_⟩
      · refine ⟨a, _, rfl, .inr ⟨ha, q a (l.take m) _ (Same.refl _) ?_ (tr_of hz h0)⟩⟩
        have hm : m = l.length := by
          have h2 := hw.2
          rw [HT.sIx_nat, List.length_map] at h2
          have := hz.1
          omega
        rw [hm, List.take_length]
        exact ha
      · refine ⟨p, _, rfl, .inr ⟨.inl (.inl upd_same), q p (l.take m) _ (same_upd np) ?_ (tr_of hz h0)⟩⟩
        rw [cut_to hz.1]
        exact .inl (.inl upd_same)
end

def SmP (l : List Int) : Prop := ∀ k, (co l k).natAbs ≤ 5
def spLawPoly (K : PySem.W.Frag) : Sp := fun vs H Q _ => ∃ (r : Addr) (ds : List Int) (most : Nat), vs = [.ref r, .int most] ∧ most ≤ 1000 ∧ H r = some (.lst (ds.map V.int)) ∧
  ∀ (t : Addr) (zs ds' : List Int) (H' : Hp), SameBut r H H' → H' r = some (.lst (ds'.map V.int)) → H t = none → H' t = some (.tup (zs.map V.int)) → Pol zs → SmP zs → zs.length ≤ most → Q (.ref t) H'
section
variable {P : Program} {w : World} {K : PySem.W.Frag} {mg : Str → Option Value} {base : Heap}
/-! ### _law_poly -/
theorem ok_law_poly {f a_law_next a_law_cut : Addr} {fd fd_law_next fd_law_cut : FuncData} (F : Fun K "_law_poly" "_law_poly" s_law_poly f fd) (z_int : mg "int" = none) (z_range : mg "range" = none)
    (G_law_next : FnOk P w K mg base CX0 1 a_law_next fd_law_next ["draws"] spNext) (g_law_next : mg "_law_next" = some (.ref a_law_next)) (k_law_next : PySem.W.keepIn K (.ref a_law_next) = true) (b_law_next : Binds K fd_law_next ["draws"] [])
    (G_law_cut : FnOk P w K mg base CX0 1 a_law_cut fd_law_cut ["parts"] (spCut K)) (g_law_cut : mg "_law_cut" = some (.ref a_law_cut)) (k_law_cut : PySem.W.keepIn K (.ref a_law_cut) = true) (b_law_cut : Binds K fd_law_cut ["parts"] []) : FnOk P w K mg base CX0 2 f fd ["draws", "most"] (spLawPoly K) := by
  refine F.ok sc_law_poly (fun vs H Q E h => ?_) (fun cdv A outer s H vs Q E hr h => ?_)
  · obtain ⟨r, ds, most, rfl, _⟩ := h
    rfl
  · obtain ⟨r, ds, most, rfl, hm, hL, q⟩ := h
    refine ⟨_, (pss_one (ps_ret (pe_call G_law_cut (hr.mono (by decide)) rfl g_law_cut k_law_cut b_law_cut .nil pass0 (pa_cons (pe_lc (own := [("j", 2)]) rfl sc_law_poly.nd (pi_range1 rfl z_range (pa_cons (pe_op op_mod (pe_callTy call_int1 (by rfl) z_int boot_int (pa_cons (pe_call G_law_next (hr.mono (by decide)) rfl g_law_next k_law_next b_law_next .nil pass0 (pa_cons (pv 0) pa_nil)) pa_nil)) (pe_op op_add (pv 1) pe_int)) pa_nil)) (blkOk_by (N := ["draws", "most", "j"]) (sc := defScope s_law_poly) (by first | decide +kernel | rfl)) (fun _ _ _ _ _ => (pg_name (i := 2) sc_law_poly.nd rfl (.inl rfl))) (fun _ _ _ _ _ => pts_nil) (fun _ _ _ _ _ => (pe_op op_sub (pe_op op_mod (pe_callTy call_int1 (by rfl) z_int boot_int (pa_cons (pe_call G_law_next (hr.mono (by decide)) rfl g_law_next k_law_next b_law_next .nil pass0 (pa_cons (pv 0) pa_nil)) pa_nil)) pe_int) pe_int))) pa_nil)))), ?_⟩
    have szl : 2000 ≤ sizeLine := by decide
    refine ⟨_, rfl, r, ds, rfl, hL, fun n0 ds0 => .inl ⟨n0, rfl, _, rfl, _, _, rfl, rfl, n0, _, rfl, rfl, by omega, ?_⟩⟩
    obtain ⟨N, hN, eN⟩ : ∃ N : Nat, N ≤ most ∧ n0 % ((most : Int) + 1) = (N : Int) := by
      have m := mod_lt8 n0 (show (0 : Int) < (most : Int) + 1 by omega)
      exact ⟨(n0 % ((most : Int) + 1)).toNat, by omega, by omega⟩
    refine ⟨(N : Int), congrArg (fun z => [V.int z]) eN, by omega, by omega, fun D nD => ?_⟩
    have hrD : r ≠ D := ne_of_none upd_same nD
    have nD0 : H D = none := by rwa [upd_ne (Ne.symm hrD)] at nD
    refine lc_range (lo := 0) (n := N) (fun i H' => ∃ (ds' cs : List Int), SameBut r H H' ∧ H' r = some (.lst (ds'.map V.int)) ∧ H' D = some (.lst (cs.map V.int)) ∧ cs.length = i ∧ SmP cs)
      ⟨ds0, [], SameBut.upd.trans (SameBut.new nD), by rw [upd_ne hrD, upd_same], upd_same, rfl, fun k => by rw [co_ge (Nat.zero_le _)]; decide⟩ (fun i H' hi hP => ?_) (fun H' hP => ?_)
    · obtain ⟨ds', cs, sb, hr', hD, lc, sm⟩ := hP
      refine ⟨rfl, ?_⟩
      refine ⟨_, rfl, r, ds', rfl, hr', fun n1 ds1 => .inl ⟨n1, rfl, n1, 11, rfl, rfl, (show (0 : Int) < 11 by decide), _, 5, rfl, rfl, ?_⟩⟩
      have m1 := mod_lt8 n1 (show (0 : Int) < 11 by decide)
      refine ⟨cs.map V.int, by rw [upd_ne (Ne.symm hrD)]; exact hD, by rw [List.length_map]; omega, ds1, cs ++ [n1 % 11 - 5], ?_, by rw [upd_ne hrD, upd_same], by rw [upd_same, List.map_append]; rfl, by rw [List.length_append, lc]; rfl, fun k => ?_⟩
      · intro b o nb hb
        rw [upd_ne (ne_of_none hb nD0), upd_ne nb]
        exact sb b o nb hb
      · rcases Nat.lt_or_ge k cs.length with c | c
        · have : co (cs ++ [n1 % 11 - 5]) k = co cs k := by
            unfold co
            rw [List.getD_eq_getElem?_getD, List.getD_eq_getElem?_getD, List.getElem?_append_left c]
          rw [this]
          exact sm k
        · by_cases c2 : k = cs.length
          · have : co (cs ++ [n1 % 11 - 5]) k = n1 % 11 - 5 := by
              unfold co
              rw [List.getD_eq_getElem?_getD, List.getElem?_append_right c, c2, Nat.sub_self]
              rfl
            rw [this]
            omega
          · rw [co_ge (by rw [List.length_append]; show cs.length + 1 ≤ k; omega)]
            decide
    · obtain ⟨ds', cs, sb, hr', hD, lc, sm⟩ := hP
      refine ⟨D, cs, rfl, .inl (.inl hD), by omega, fun t zs H2 s2 nt ht tr => ?_⟩
      refine q t zs ds' H2 (fun b o nb hb => s2 _ _ (sb b o nb hb)) (s2 _ _ hr') ?_ ht tr.pol (fun k => by rw [tr.co]; exact sm k) (by have := tr.len; omega)
      have nrt : t ≠ r := fun z => by
        rw [z, hr'] at nt
        exact nomatch nt
      cases e : H t with
      | none => rfl
      | some o =>
        rw [sb _ _ nrt e] at nt
        exact nomatch nt
end

def spLawTimes (K : PySem.W.Frag) : Sp := fun vs H Q _ => ∃ (a b : Addr) (l m : List Int), vs = [.ref a, .ref b] ∧ SqT K H a (l.map V.int) ∧ SqT K H b (m.map V.int) ∧ (∀ x ∈ l, ∀ y ∈ m, CMul x y) ∧ l.length ≤ 1000 ∧ m.length ≤ 1000 ∧
  ∀ t zs H', Same H H' → H t = none → H' t = some (.tup (zs.map V.int)) → Pol zs → (∀ k, co zs k = conv l m l.length k) → zs.length ≤ l.length + m.length → Q (.ref t) H'
section
variable {P : Program} {w : World} {K : PySem.W.Frag} {mg : Str → Option Value} {base : Heap}
/-! ### _law_times -/
theorem ok_law_times {f a_law_cut : Addr} {fd fd_law_cut : FuncData} (F : Fun K "_law_times" "_law_times" s_law_times f fd) (z_len : mg "len" = none) (z_range : mg "range" = none)
    (G_law_cut : FnOk P w K mg base CX0 1 a_law_cut fd_law_cut ["parts"] (spCut K)) (g_law_cut : mg "_law_cut" = some (.ref a_law_cut)) (k_law_cut : PySem.W.keepIn K (.ref a_law_cut) = true) (b_law_cut : Binds K fd_law_cut ["parts"] []) : FnOk P w K mg base CX0 2 f fd ["one", "other"] (spLawTimes K) := by
  refine F.ok sc_law_times (fun vs H Q E h => ?_) (fun cdv A outer s H vs Q E hr h => ?_)
  · obtain ⟨a, b, l, m, rfl, _⟩ := h
    rfl
  · obtain ⟨a, b, l, m, rfl, ha, hb, hm, ll, lm, q⟩ := h
    refine ⟨_, (pss_cons (ps_set (i := 2) sc_law_times.nd rfl (.inl rfl) (pe_op op_rep (pe_lst (pa_cons pe_int pa_nil)) (pe_op op_add (pe_callB call_len_seq (by rfl) z_len boot_len (pa_cons (pv 0) pa_nil)) (pe_callB call_len_seq (by rfl) z_len boot_len (pa_cons (pv 1) pa_nil)))))
  (pss_cons (ps_for PassesOwn.never rfl (pi_range1 rfl z_range (pa_cons (pe_callB call_len_seq (by rfl) z_len boot_len (pa_cons (pv 0) pa_nil)) pa_nil)) (pg_name (i := 3) sc_law_times.nd rfl (.inl rfl)) (pss_one (ps_for PassesOwn.never rfl (pi_range1 rfl z_range (pa_cons (pe_callB call_len_seq (by rfl) z_len boot_len (pa_cons (pv 1) pa_nil)) pa_nil)) (pg_name (i := 4) sc_law_times.nd rfl (.inl rfl)) (pss_one (ps_asg (pe_op op_add (pe_ix ix_list (pv 2) (pe_op op_add (pv 3) (pv 4)) (fun _ _ => rfl)) (pe_op op_mul (pe_ix ix_tup (pv 0) (pv 3) (fun _ _ => rfl)) (pe_ix ix_tup (pv 1) (pv 4) (fun _ _ => rfl)))) (pg_sub (pv 2) (pe_op op_add (pv 3) (pv 4)) set_list))))))
  (pss_one (ps_ret (pe_call G_law_cut (hr.mono (by decide)) rfl g_law_cut k_law_cut b_law_cut .nil pass0 (pa_cons (pv 2) pa_nil)))))), ?_⟩
    have szl : 3000 ≤ sizeLine := by decide
    refine ⟨(by show 1 ≤ sizeLine; decide), fun z nz => ?_⟩
    have hz : SqT K (upd H z (.lst [.int 0])) a (l.map V.int) := sqT_same (same_upd nz) ha
    have hz2 : SqT K (upd H z (.lst [.int 0])) b (m.map V.int) := sqT_same (same_upd nz) hb
    refine ⟨_, rfl, a, _, rfl, .inr hz, _, rfl, b, _, rfl, .inr hz2, _, _, rfl, rfl, z, _, _, rfl, rfl, upd_same, ?_⟩
    rw [List.length_map, List.length_map, show ((l.length : Nat) : Int) + ((m.length : Nat) : Int) = ((l.length + m.length : Nat) : Int) by omega]
    refine ⟨by omega, by omega, by show 1 * _ ≤ sizeLine; omega, fun D nD => ?_⟩
    rw [show ((l.length + m.length : Nat) : Int).toNat = l.length + m.length from rfl, rep0]
    have s1 : Same H (upd (upd H z (.lst [.int 0])) D (.lst ((List.replicate (l.length + m.length) (0 : Int)).map V.int))) := Same.trans (same_upd nz) (same_upd nD)
    have hD1 : upd (upd H z (.lst [.int 0])) D (.lst ((List.replicate (l.length + m.length) (0 : Int)).map V.int)) D = some (.lst ((List.replicate (l.length + m.length) (0 : Int)).map V.int)) := upd_same
    have nD0 := none_back (same_upd nz) nD
    revert s1 hD1
    generalize upd (upd H z (.lst [.int 0])) D (.lst ((List.replicate (l.length + m.length) (0 : Int)).map V.int)) = H1
    intro s1 hD1
    refine ⟨_, rfl, a, _, rfl, .inr (sqT_same s1 ha), ?_⟩
    rw [List.length_map]
    refine ⟨_, rfl, by omega, by omega, for_range (lo := 0) (n := l.length) (fun i σ H' => ∃ (v3 v4 : Option V) (ps : List Int), σ = [some (.ref a), some (.ref b), some (.ref D), v3, v4] ∧ Same H H' ∧ H' D = some (.lst (ps.map V.int)) ∧ ps.length = l.length + m.length ∧ ∀ k, co ps k = conv l m i k)
      ⟨none, none, _, rfl, s1, hD1, List.length_replicate, fun k => by rw [co_zeros]; rfl⟩ (fun i σ H' hi hP => ?_) (fun σ H' hP => ?_)⟩
    · obtain ⟨v3, v4, ps, rfl, s2, hD2, lp, hc⟩ := hP
      refine ⟨_, rfl, b, _, rfl, .inr (sqT_same s2 hb), ?_⟩
      rw [List.length_map]
      refine ⟨_, rfl, by omega, by omega, for_range (lo := 0) (n := m.length) (fun j σ H' => ∃ (v4 : Option V) (ps : List Int), σ = [some (.ref a), some (.ref b), some (.ref D), some (.int (0 + (i : Int))), v4] ∧ Same H H' ∧ H' D = some (.lst (ps.map V.int)) ∧ ps.length = l.length + m.length ∧ ∀ k, co ps k = part l m i j k)
        ⟨v4, ps, rfl, s2, hD2, lp, fun k => by rw [hc, part_0]⟩ (fun j σ H' hj hP => ?_) (fun σ H' hP => ?_)⟩
      · obtain ⟨v4, ps, rfl, s4, hD4, lp, hc⟩ := hP
        have hij : i + j < ps.length := by omega
        have ea : (0 : Int) + (i : Int) + (0 + (j : Int)) = ((i + j : Nat) : Int) := by omega
        have ei : (0 : Int) + (i : Int) = ((i : Nat) : Int) := by omega
        have ej : (0 : Int) + (j : Int) = ((j : Nat) : Int) := by omega
        refine ⟨_, rfl, _, rfl, _, rfl, _, _, rfl, rfl, D, _, _, _, rfl, rfl, .inl (.inl hD4), (by rw [ea]; exact at_co hij), _, rfl, _, rfl, a, _, _, _, rfl, rfl, sqT_same s4 ha, (by rw [ei]; exact at_co hi),
          _, rfl, _, rfl, b, _, _, _, rfl, rfl, sqT_same s4 hb, (by rw [ej]; exact at_co hj), _, _, rfl, rfl, hm _ (co_mem hi) _ (co_mem hj), _, _, rfl, rfl, ?_⟩
        refine ⟨_, rfl, _, rfl, _, rfl, _, _, rfl, rfl, D, _, _, i + j, rfl, rfl, hD4, (by rw [ea]; exact ixN_nat (by rw [List.length_map]; exact hij)), ?_⟩
        refine ⟨_, ps.set (i + j) (co ps (i + j) + co l i * co m j), rfl, Same.mut s4 nD0, by rw [upd_same, map_set], by rw [List.length_set]; exact lp, fun k => ?_⟩
        rw [co_set k hij, part_step]
        by_cases c : k = i + j
        · rw [if_pos c, if_pos c, c, hc]
        · rw [if_neg c, if_neg c, hc]
      · obtain ⟨v4, ps, rfl, s4, hD4, lp, hc⟩ := hP
        exact ⟨_, _, ps, rfl, s4, hD4, lp, fun k => by rw [hc, part_end]⟩
    · obtain ⟨v3, v4, ps, rfl, s2, hD2, lp, hc⟩ := hP
      refine ⟨_, rfl, D, ps, rfl, .inl (.inl hD2), by omega, fun t zs H2 s3 nt ht tr => q t zs H2 (Same.trans s2 s3) (none_back s2 nt) ht tr.pol (fun k => by rw [tr.co, hc]) (by have := tr.len; omega)⟩
end

def spLawPlus (K : PySem.W.Frag) : Sp := fun vs H Q _ => ∃ (a b : Addr) (l m : List Int), vs = [.ref a, .ref b] ∧ SqT K H a (l.map V.int) ∧ SqT K H b (m.map V.int) ∧ l.length ≤ 1000 ∧ m.length ≤ 1000 ∧
  ∀ t zs H', Same H H' → H t = none → H' t = some (.tup (zs.map V.int)) → Pol zs → (∀ k, co zs k = co l k + co m k) → zs.length ≤ max l.length m.length → Q (.ref t) H'
section
variable {P : Program} {w : World} {K : PySem.W.Frag} {mg : Str → Option Value} {base : Heap}
/-! ### _law_plus -/
theorem ok_law_plus {f a_law_cut : Addr} {fd fd_law_cut : FuncData} (F : Fun K "_law_plus" "_law_plus" s_law_plus f fd) (z_len : mg "len" = none) (z_max : mg "max" = none) (z_range : mg "range" = none)
    (G_law_cut : FnOk P w K mg base CX0 1 a_law_cut fd_law_cut ["parts"] (spCut K)) (g_law_cut : mg "_law_cut" = some (.ref a_law_cut)) (k_law_cut : PySem.W.keepIn K (.ref a_law_cut) = true) (b_law_cut : Binds K fd_law_cut ["parts"] []) : FnOk P w K mg base CX0 2 f fd ["one", "other"] (spLawPlus K) := by
  refine F.ok sc_law_plus (fun vs H Q E h => ?_) (fun cdv A outer s H vs Q E hr h => ?_)
  · obtain ⟨a, b, l, m, rfl, _⟩ := h
    rfl
  · obtain ⟨a, b, l, m, rfl, ha, hb, ll, lm, q⟩ := h
    refine ⟨_, (pss_cons (ps_set (i := 2) sc_law_plus.nd rfl (.inl rfl) (pe_op op_rep (pe_lst (pa_cons pe_int pa_nil)) (pe_callB (call_max2 rfl) (by rfl) z_max boot_max (pa_cons (pe_callB call_len_seq (by rfl) z_len boot_len (pa_cons (pv 0) pa_nil)) (pa_cons (pe_callB call_len_seq (by rfl) z_len boot_len (pa_cons (pv 1) pa_nil)) pa_nil)))))
  (pss_cons (ps_for PassesOwn.never rfl (pi_list (pe_lst (pa_cons (pv 0) (pa_cons (pv 1) pa_nil)))) (pg_name (i := 3) sc_law_plus.nd rfl (.inl rfl)) (pss_one (ps_for PassesOwn.never rfl (pi_range1 rfl z_range (pa_cons (pe_callB call_len_seq (by rfl) z_len boot_len (pa_cons (pv 3) pa_nil)) pa_nil)) (pg_name (i := 4) sc_law_plus.nd rfl (.inl rfl)) (pss_one (ps_asg (pe_op op_add (pe_ix ix_list (pv 2) (pv 4) (fun _ _ => rfl)) (pe_ix ix_tup (pv 3) (pv 4) (fun _ _ => rfl))) (pg_sub (pv 2) (pv 4) set_list))))))
  (pss_one (ps_ret (pe_call G_law_cut (hr.mono (by decide)) rfl g_law_cut k_law_cut b_law_cut .nil pass0 (pa_cons (pv 2) pa_nil)))))), ?_⟩
    have szl : 3000 ≤ sizeLine := by decide
    refine ⟨(by show 1 ≤ sizeLine; decide), fun z nz => ?_⟩
    have hz : SqT K (upd H z (.lst [.int 0])) a (l.map V.int) := sqT_same (same_upd nz) ha
    have hz2 : SqT K (upd H z (.lst [.int 0])) b (m.map V.int) := sqT_same (same_upd nz) hb
    refine ⟨_, rfl, a, _, rfl, .inr hz, _, rfl, b, _, rfl, .inr hz2, _, _, rfl, z, _, _, rfl, rfl, upd_same, ?_⟩
    rw [List.length_map, List.length_map]
    have em : (if ((m.length : Nat) : Int) > ((l.length : Nat) : Int) then ((m.length : Nat) : Int) else ((l.length : Nat) : Int)) = ((max l.length m.length : Nat) : Int) := by
      by_cases c : m.length > l.length
      · rw [if_pos (by omega), Nat.max_eq_right (by omega)]
      · rw [if_neg (by omega), Nat.max_eq_left (by omega)]
    rw [em]
    have mx : max l.length m.length ≤ 1000 := Nat.max_le.mpr ⟨ll, lm⟩
    have ml := Nat.le_max_left l.length m.length
    have mr := Nat.le_max_right l.length m.length
    generalize max l.length m.length = N at *
    refine ⟨by omega, by omega, by show 1 * _ ≤ sizeLine; omega, fun D nD => ?_⟩
    rw [show ((N : Nat) : Int).toNat = N from rfl, rep0]
    have s1 : Same H (upd (upd H z (.lst [.int 0])) D (.lst ((List.replicate N (0 : Int)).map V.int))) := Same.trans (same_upd nz) (same_upd nD)
    have hD1 : upd (upd H z (.lst [.int 0])) D (.lst ((List.replicate N (0 : Int)).map V.int)) D = some (.lst ((List.replicate N (0 : Int)).map V.int)) := upd_same
    have nD0 := none_back (same_upd nz) nD
    revert s1 hD1
    generalize upd (upd H z (.lst [.int 0])) D (.lst ((List.replicate N (0 : Int)).map V.int)) = H1
    intro s1 hD1
    refine ⟨_, rfl, _, rfl, (by show 2 ≤ sizeLine; decide), fun g ng => ?_⟩
    have s2 : Same H (upd H1 g (.lst [.ref a, .ref b])) := Same.trans s1 (same_upd ng)
    have hg : upd H1 g (.lst [.ref a, .ref b]) g = some (.lst [.ref a, .ref b]) := upd_same
    have hgD : g ≠ D := Ne.symm (ne_of_none hD1 ng)
    have ng0 := none_back s1 ng
    have hD2 : upd H1 g (.lst [.ref a, .ref b]) D = some (.lst ((List.replicate N (0 : Int)).map V.int)) := by rw [upd_ne (Ne.symm hgD)]; exact hD1
    revert s2 hg hD2
    generalize upd H1 g (.lst [.ref a, .ref b]) = H2
    intro s2 hg hD2
    let base_ : Nat → Nat → Int := fun i k => (if 1 ≤ i then co l k else 0) + (if 2 ≤ i then co m k else 0)
    refine ⟨g, rfl, ⟨_, .inl (.inl hg)⟩, for_list (K := K) (a := g) (xs := [V.ref a, V.ref b]) (fun i σ H' => ∃ (v3 v4 : Option V) (ps : List Int), σ = [some (.ref a), some (.ref b), some (.ref D), v3, v4] ∧ Same H H' ∧ H' g = some (.lst [.ref a, .ref b]) ∧ H' D = some (.lst (ps.map V.int)) ∧ ps.length = N ∧ ∀ k, co ps k = base_ i k)
      ⟨none, none, _, rfl, s2, hg, hD2, List.length_replicate, fun k => by rw [co_zeros]; rfl⟩ (fun i σ H' _ ⟨_, _, _, _, _, h, _⟩ => .inl (.inl h)) ?_ ?_⟩
    · rintro i y σ H' hi ⟨v3, v4, ps, rfl, s3, hg3, hD3, lp, hc⟩
      obtain ⟨c, cl, hy, hcc, hlc, hb2⟩ : ∃ (c : Addr) (cl : List Int), y = .ref c ∧ SqT K H c (cl.map V.int) ∧ cl.length ≤ N ∧ ∀ k, base_ i k + co cl k = base_ (i + 1) k := by
        have hi2 : i < 2 := (List.getElem?_eq_some_iff.mp hi).1
        rcases (show i = 0 ∨ i = 1 by omega) with rfl | rfl
        · exact ⟨a, l, (Option.some.inj hi).symm, ha, ml, fun k => by show (0 : Int) + 0 + co l k = co l k + 0; omega⟩
        · exact ⟨b, m, (Option.some.inj hi).symm, hb, mr, fun k => by show co l k + 0 + co m k = co l k + co m k; omega⟩
      subst hy
      refine ⟨_, rfl, c, _, rfl, .inr (sqT_same s3 hcc), ?_⟩
      rw [List.length_map]
      refine ⟨_, rfl, by omega, by omega, for_range (lo := 0) (n := cl.length) (fun j σ H' => ∃ (v4 : Option V) (ps : List Int), σ = [some (.ref a), some (.ref b), some (.ref D), some (.ref c), v4] ∧ Same H H' ∧ H' g = some (.lst [.ref a, .ref b]) ∧ H' D = some (.lst (ps.map V.int)) ∧ ps.length = N ∧ ∀ k, co ps k = base_ i k + (if k < j then co cl k else 0))
        ⟨v4, ps, rfl, s3, hg3, hD3, lp, fun k => by rw [hc, if_neg (Nat.not_lt_zero _), Int.add_zero]⟩ (fun j σ H' hj hP => ?_) (fun σ H' hP => ?_)⟩
      · obtain ⟨v4, ps, rfl, s4, hg4, hD4, lp, hc⟩ := hP
        have ej : (0 : Int) + (j : Int) = ((j : Nat) : Int) := by omega
        refine ⟨_, rfl, _, rfl, D, _, _, _, rfl, rfl, .inl (.inl hD4), (by rw [ej]; exact at_co (show j < ps.length by omega)), _, rfl, _, rfl, c, _, _, _, rfl, rfl, sqT_same s4 hcc, (by rw [ej]; exact at_co hj), _, _, rfl, rfl, ?_⟩
        refine ⟨_, rfl, _, rfl, D, _, _, j, rfl, rfl, hD4, (by rw [ej]; exact ixN_nat (by rw [List.length_map]; omega)), ?_⟩
        refine ⟨_, ps.set j (co ps j + co cl j), rfl, Same.mut s4 nD0, by rw [upd_ne hgD]; exact hg4, by rw [upd_same, map_set], by rw [List.length_set]; exact lp, fun k => ?_⟩
        rw [co_set k (by omega)]
        by_cases c1 : k = j
        · rw [if_pos c1, hc, if_neg (by omega), if_pos (by omega), c1, Int.add_zero]
        · rw [if_neg c1, hc]
          by_cases c2 : k < j
          · rw [if_pos c2, if_pos (by omega)]
          · rw [if_neg c2, if_neg (by omega)]
      · obtain ⟨v4, ps, rfl, s4, hg4, hD4, lp, hc⟩ := hP
        refine ⟨_, _, ps, rfl, s4, hg4, hD4, lp, fun k => ?_⟩
        rw [hc, ← hb2]
        by_cases c2 : k < cl.length
        · rw [if_pos c2]
        · rw [if_neg c2, co_ge (l := cl) (by omega)]
    · rintro σ H' ⟨v3, v4, ps, rfl, s3, hg3, hD3, lp, hc⟩
      refine ⟨_, rfl, D, ps, rfl, .inl (.inl hD3), by omega, fun t zs H4 s5 nt ht tr => q t zs H4 (Same.trans s3 s5) (none_back s3 nt) ht tr.pol (fun k => by rw [tr.co, hc]; rfl) (by have := tr.len; omega)⟩
end

def spLawValue (K : PySem.W.Frag) : Sp := fun vs H Q _ => ∃ (a : Addr) (x : Int) (l : List Int), vs = [.ref a, .int x] ∧ SqT K H a (l.map V.int) ∧ (∀ y ∈ l, y.natAbs < 2 ^ 62) ∧ x.natAbs < 2 ^ 62 ∧ Q (.int (ev x l)) H
section
variable {P : Program} {w : World} {K : PySem.W.Frag} {mg : Str → Option Value} {base : Heap}
/-! ### _law_value -/
theorem ok_law_value {f : Addr} {fd : FuncData} (F : Fun K "_law_value" "_law_value" s_law_value f fd) : FnOk P w K mg base CX0 1 f fd ["poly", "x"] (spLawValue K) := by
  refine F.ok sc_law_value (fun vs H Q E h => ?_) (fun cdv A outer s H vs Q E hr h => ?_)
  · obtain ⟨a, x, l, rfl, _⟩ := h
    rfl
  · obtain ⟨a, x, l, rfl, ha, hs, hx, q⟩ := h
    refine ⟨_, (pss_cons (ps_set (i := 2) sc_law_value.nd rfl (.inl rfl) pe_int)
  (pss_cons (ps_set (i := 3) sc_law_value.nd rfl (.inl rfl) pe_int)
  (pss_cons (ps_for PassesOwn.never rfl (pi_tup (pv 0)) (pg_name (i := 4) sc_law_value.nd rfl (.inl rfl)) (pss_cons (ps_set (i := 2) sc_law_value.nd rfl (.inl rfl) (pe_op op_add (pv 2) (pe_op op_mul (pv 4) (pv 3))))
  (pss_one (ps_set (i := 3) sc_law_value.nd rfl (.inl rfl) (pe_op op_mul (pv 3) (pv 1))))))
  (pss_one (ps_ret (pv 2)))))), ?_⟩
    refine ⟨_, rfl, a, rfl, ⟨_, ha⟩, for_it walk_tup (fun i σ H' => H' = H ∧ ∃ v4 : Option V, σ = [some (.ref a), some (.int x), some (.int (ev x (l.take i))), some (.int (x ^ i)), v4])
      ⟨rfl, none, by rw [Int.pow_zero]; rfl⟩ (fun i σ H' _ h => by rw [h.1]; exact ha) (fun i y σ H1 H2 hi hP hy => ?_) (fun σ H' hP => ?_)⟩
    · obtain ⟨rfl, v4, rfl⟩ := hP
      obtain ⟨rfl, hy⟩ := hy
      rw [List.length_map] at hi
      have ey : (l.map V.int)[i]? = some (.int (co l i)) := by rw [List.getElem?_map, co_get hi]; rfl
      obtain rfl : V.int (co l i) = y := Option.some.inj (ey.symm.trans hy)
      have := hs _ (co_mem hi)
      refine ⟨_, rfl, _, rfl, _, rfl, _, _, rfl, rfl, .inl ⟨by omega, by omega⟩, _, _, rfl, rfl, ?_⟩
      refine ⟨_, rfl, _, rfl, _, _, rfl, rfl, .inr ⟨by omega, by omega⟩, rfl, some (.int (co l i)), ?_⟩
      rw [ev_take x hi, Int.pow_succ]
      rfl
    · obtain ⟨rfl, v4, rfl⟩ := hP
      rw [List.length_map, List.take_length]
      exact ⟨_, rfl, q⟩
end

/-- a tuple of these integers -/
def TP (H : Hp) (v : V) (z : List Int) : Prop := ∃ t, v = .ref t ∧ H t = some (.tup (z.map V.int))
theorem TP.same {H H' : Hp} {v : V} {z : List Int} (s : Same H H') (h : TP H v z) : TP H' v z := by
  obtain ⟨t, rfl, h⟩ := h
  exact ⟨t, rfl, s _ _ h⟩
def dT (z : List Int) : PyData := .tuple (z.map PyData.int)
theorem ints_dp {K : PySem.W.Frag} {H : Hp} : ∀ z : List Int, DpAll K H (z.map V.int) (z.map PyData.int)
  | [] => .nil
  | a :: r => .cons (.int a) (ints_dp r)
theorem TP.dp {K : PySem.W.Frag} {H : Hp} {v : V} {z : List Int} (h : TP H v z) : Dp K H v (dT z) := by
  obtain ⟨t, rfl, h⟩ := h
  exact .tup (.inl (.inl h)) (ints_dp z)
theorem tps_dp {K : PySem.W.Frag} {H : Hp} : ∀ {vs : List V} {zs : List (List Int)}, Paired (TP H) vs zs → DpAll K H vs (zs.map dT)
  | _, _, .nil => .nil
  | _, _, .cons a b => .cons a.dp (tps_dp b)
theorem paired_add {α β : Type} {F : α → β → Prop} {a : α} {b : β} (h : F a b) : ∀ {l : List α} {m : List β}, Paired F l m → Paired F (l ++ [a]) (m ++ [b])
  | _, _, .nil => .cons h .nil
  | _, _, .cons x y => .cons x (paired_add h y)
theorem dT_small {z : List Int} (h : ∀ k, (co z k).natAbs < 2 ^ 200) : SmL 1 (1923 * z.length + 3) (dT z) := by
  have e := smL_tuple (ds := z.map PyData.int) (n := 0) (k := 1921) fun D hD => by
    obtain ⟨a, ha, rfl⟩ := List.mem_map.mp hD
    obtain ⟨i, hi, rfl⟩ := List.mem_iff_getElem.mp ha
    have e1 := co_get hi
    rw [List.getElem?_eq_getElem hi] at e1
    rw [Option.some.inj e1]
    exact smL_int (h i)
  rw [List.length_map] at e
  exact e
theorem SmL.more {n k k' : Nat} {D : PyData} (h : SmL n k D) (hk : k ≤ k') : SmL n k' D := by
  obtain ⟨h1, h2, h3, h4⟩ := h
  exact ⟨h1, h2, h3, Nat.le_trans h4 hk⟩
theorem repT {α : Type} (x : α) : ∀ n : Nat, (List.replicate n [x]).flatten = List.replicate n x
  | 0 => rfl
  | n + 1 => by rw [List.replicate_succ, List.flatten_cons, repT x n, List.replicate_succ]; rfl
def rCatB (K : PySem.W.Frag) : R2 := fun x y H Q => ∃ a b xs ys, x = .ref a ∧ y = .ref b ∧ SqT K H a xs ∧ SqT K H b ys ∧ xs.length + ys.length ≤ sizeLine ∧ ∀ p H', Same H H' → SqT K H' p (xs ++ ys) → Q (.ref p) H'
theorem op_catB {X : Cx} : OpR X (binaryOp .Add) (rCatB X.K) := by
  intro pins s σ H x y v u Q I rx ry h
  obtain ⟨a, b, xs, ys, rfl, rfl, ha, hb, hz, q⟩ := h
  refine op_catA pins s σ H _ _ v u Q I rx ry ⟨a, b, xs, ys, rfl, rfl, ha, hb, hz, fun e => ?_, fun _ e => ?_, fun _ _ p np => ?_⟩
  · exact q b H (Same.refl _) (by rw [e, List.nil_append]; exact hb)
  · exact q a H (Same.refl _) (by rw [e, List.append_nil]; exact ha)
  · exact q p _ (same_upd np) (.inl (.inl upd_same))
theorem sqT_butL {K : PySem.W.Frag} {H H' : Hp} {r a : Addr} {xs ys : List V} (hr : H r = some (.lst ys)) (e : SameBut r H H') (h : SqT K H a xs) : SqT K H' a xs := by
  rcases h with (h | ⟨o, h⟩) | h
  · exact .inl (.inl (e _ _ (ne_of h hr (fun z => nomatch z)) h))
  · exact .inl (.inr ⟨o, e _ _ (ne_of h hr (fun z => nomatch z)) h⟩)
  · exact .inr h
theorem eqvAll_ints : ∀ x y : List Int, PyData.eqvAll (x.map PyData.int) (y.map PyData.int) = decide (x = y)
  | [], [] => by simp [PyData.eqvAll]
  | [], _ :: _ => by simp [PyData.eqvAll]
  | _ :: _, [] => by simp [PyData.eqvAll]
  | a :: x, b :: y => by
    rw [List.map_cons, List.map_cons]
    simp only [PyData.eqvAll, PyData.eqv, eqvAll_ints x y]
    by_cases h1 : a = b
    · by_cases h2 : x = y
      · simp [h1, h2]
      · simp [h2]
    · simp [h1]
theorem eqv_dT (x y : List Int) : PyData.eqv (dT x) (dT y) = decide (x = y) := by
  unfold dT
  simp only [PyData.eqv, eqvAll_ints]
theorem lay_ints : ∀ x : List Int, PyData.canLayAll0 (x.map PyData.int) = true ∧ PyData.depthAll (x.map PyData.int) = 0
  | [] => ⟨by simp [PyData.canLayAll0], by simp [PyData.depthAll]⟩
  | a :: x => by
    obtain ⟨h1, h2⟩ := lay_ints x
    exact ⟨by simp [PyData.canLayAll0, PyData.canLay0, h1], by simp [PyData.depthAll, PyData.depth, h2]⟩
theorem dT_shaped (x : List Int) : SeqAt.shaped (dT x) = true := by
  obtain ⟨h1, h2⟩ := lay_ints x
  show (PyData.canLay0 (dT x) && decide (PyData.depth (dT x) ≤ 64)) = true
  unfold dT
  rw [show PyData.canLay0 (.tuple (x.map PyData.int)) = true by simp [PyData.canLay0, h1], show PyData.depth (.tuple (x.map PyData.int)) = 1 by simp [PyData.depth, h2]]
  rfl
theorem eqD_TP {K : PySem.W.Frag} {H : Hp} {u v : V} {x y : List Int} {Q : VK} (hx : TP H u x) (hy : TP H v y) (q : Q (.bl (decide (x = y))) H) : rEqD K u v H Q :=
  ⟨_, _, hx.dp, hy.dp, dT_shaped x, dT_shaped y, by rw [eqv_dT]; exact q⟩
theorem neD_TP {K : PySem.W.Frag} {H : Hp} {u v : V} {x y : List Int} {Q : VK} (hx : TP H u x) (hy : TP H v y) (q : Q (.bl (!decide (x = y))) H) : rNeD K u v H Q :=
  ⟨_, _, hx.dp, hy.dp, dT_shaped x, dT_shaped y, by rw [eqv_dT]; exact q⟩
def rRepB (K : PySem.W.Frag) : R2 := fun x y H Q => ∃ l k xs, x = .ref l ∧ y = .int k ∧ SqT K H l xs ∧ xs ≠ [] ∧ 0 ≤ k ∧ k ≤ 1000 ∧ xs.length ≤ 1000 ∧ ∀ p H', Same H H' → SqT K H' p (List.replicate k.toNat xs).flatten → Q (.ref p) H'
theorem op_repB {X : Cx} : OpR X (binaryOp .Mult) (rRepB X.K) := by
  intro pins s σ H x y v u Q I rx ry h
  obtain ⟨l, k, xs, rfl, rfl, hT, hne, h1, h2, hz, q⟩ := h
  refine op_repA pins s σ H _ _ v u Q I rx ry ⟨l, k, xs, rfl, rfl, hT, hne, h1, h2, hz, fun e => ?_, fun _ p np => ?_⟩
  · refine q l H (Same.refl _) ?_
    rw [e, show (1 : Int).toNat = 1 from rfl]
    simpa using hT
  · exact q p _ (same_upd np) (.inl (.inl upd_same))
theorem ix_tupK {X : Cx} {K : PySem.W.Frag} (hK : X.K = K) : IxR X (rIxT K) := by
  subst hK
  exact ix_tup
theorem ix_listK {X : Cx} {K : PySem.W.Frag} (hK : X.K = K) : IxR X (rIxL K) := by
  subst hK
  exact ix_list
theorem ite_same {x : V} {A B : Prop} (h : B) : if (!decide (x = x)) = true then A else B := by
  rw [decide_eq_true rfl]
  exact iteF h
theorem pi_tupK {X : Cx} {K : PySem.W.Frag} {tg e : Expr} {te : TE} (hK : X.K = K) (he : PE X e te) : PI X tg e (iTup K te) := by
  subst hK
  exact pi_tup he
theorem call_list_ofK {X : Cx} {K : PySem.W.Frag} (hK : X.K = K) : CallR X (.type "list") (fun xs H Q => ∃ p ys, xs = [.ref p] ∧ (SqL K H p ys ∨ SqT K H p ys) ∧ ∀ l, H l = none → Q (.ref l) (upd H l (.lst ys))) := by
  subst hK
  exact call_list_of
theorem op_eqDK {X : Cx} {K : PySem.W.Frag} (hK : X.K = K) (hu : X.A.units + 64 < cLine) : OpR X (compareOp .Eq) (rEqD K) := by
  subst hK
  exact op_eqD hu

theorem conv_small {l m : List Int} (hl : SmP l) (hm : SmP m) (k : Nat) : ∀ i, (conv l m i k).natAbs ≤ 25 * i
  | 0 => Nat.zero_le _
  | i + 1 => by
    have ih := conv_small hl hm k i
    have r : (row l m i k).natAbs ≤ 25 := by
      unfold row
      split
      · rw [Int.natAbs_mul]
        exact Nat.mul_le_mul (hl i) (hm (k - i))
      · decide
    show (conv l m i k + row l m i k).natAbs ≤ _
    omega
theorem ev_small {x : Int} (hx : x.natAbs ≤ 31) : ∀ {l : List Int}, (∀ y ∈ l, y.natAbs ≤ 5) → (ev x l).natAbs ≤ 5 * 32 ^ l.length
  | [], _ => Nat.zero_le _
  | a :: r, h => by
    have ih := ev_small hx (l := r) fun y hy => h y (List.mem_cons_of_mem _ hy)
    have ha := h a List.mem_cons_self
    have hm : (x * ev x r).natAbs ≤ 31 * (5 * 32 ^ r.length) := by
      rw [Int.natAbs_mul]
      exact Nat.mul_le_mul hx ih
    have hp : 0 < 32 ^ r.length := Nat.pow_pos (by decide)
    show (a + x * ev x r).natAbs ≤ 5 * 32 ^ (r.length + 1)
    rw [Nat.pow_succ]
    omega
theorem smP_mem {l : List Int} (h : SmP l) : ∀ y ∈ l, y.natAbs ≤ 5 := fun y hy => by
  obtain ⟨i, hi, rfl⟩ := List.mem_iff_getElem.mp hy
  have e1 := co_get hi
  rw [List.getElem?_eq_getElem hi] at e1
  rw [Option.some.inj e1]
  exact h i
theorem cm_small {l m : List Int} (h : ∀ y ∈ l, y.natAbs ≤ 5) : ∀ x ∈ l, ∀ y ∈ m, CMul x y := fun x hx y _ => .inl (by have := h x hx; exact ⟨by omega, by omega⟩)
theorem isP_app0 {l : List Int} (h : l.length ≤ 100) : isP (l ++ [0]) = false := by
  unfold isP
  rw [if_neg (by rw [List.length_append]; show ¬ ((l.length + 1 : Nat) : Int) > 200; omega), if_neg (by rw [List.length_append]; show ¬ l.length + 1 = 0; omega)]
  have : co (l ++ [0]) ((l ++ [0]).length - 1) = 0 := by
    rw [List.length_append, show l.length + [(0 : Int)].length - 1 = l.length from rfl]
    unfold co
    rw [List.getD_eq_getElem?_getD, List.getElem?_append_right (Nat.le_refl _), Nat.sub_self]
    rfl
  rw [this]
  rfl

def spMul (K : PySem.W.Frag) (CP CT : Addr) : Sp := fun vs H Q E => ∃ (a b : Addr) (l m : List Int), vs = [.ref a, .ref b] ∧ SqT K H a (l.map V.int) ∧ SqT K H b (m.map V.int) ∧ (isP l = false → E (.ref CP) none H) ∧ (isP l = true → isP m = false → E (.ref CP) none H) ∧
  (isP l = true → isP m = true → (prodLen l m > 200 → E (.ref CT) none H) ∧ (prodLen l m ≤ 200 → (∀ x ∈ l, ∀ y ∈ m, CMul x y) ∧
    ∀ t zs H', Same H H' → H' t = some (.tup (zs.map V.int)) → Pol zs → (∀ k, co zs k = conv l m l.length k) → zs.length = prodLen l m → Q (.ref t) H'))
section
variable {P : Program} {w : World} {K : PySem.W.Frag} {mg : Str → Option Value} {base : Heap}
/-! ### multiplied_polys -/
theorem ok_multiplied_polys {f CP CT a_check_poly : Addr} {fd fd_check_poly : FuncData} {tm : Tok} (F : Fun K "multiplied_polys" "multiplied_polys" s_multiplied_polys f fd) (z_len : mg "len" = none) (z_tuple : mg "tuple" = none) (z_enumerate : mg "enumerate" = none)
    (T : ErrC K mg "TooLarge" CT) (m_MOST_PARTS : mg "MOST_PARTS" = some (.int 200 tm))
    (G_check_poly : FnOk P w K mg base (L2.CX P w) 2 a_check_poly fd_check_poly ["poly"] (spCheckPoly K CP)) (g_check_poly : mg "check_poly" = some (.ref a_check_poly)) (k_check_poly : PySem.W.keepIn K (.ref a_check_poly) = true) (b_check_poly : Binds K fd_check_poly ["poly"] []) : FnOk P w K mg base (L2.CX P w) 3 f fd ["one", "other"] (spMul K CP CT) := by
  obtain ⟨gc_TooLarge, x_TooLarge, kc_TooLarge, bc_TooLarge, tc_TooLarge⟩ := T
  have r_MOST_PARTS : RelV (.int 200) (.int 200 tm) := ⟨_, rfl⟩
  refine F.okX sc_multiplied_polys (fun vs H Q E h => ?_) (fun cdv A outer s H vs Q E hr h => ?_)
  · obtain ⟨a, b, l, m, rfl, _⟩ := h
    rfl
  · obtain ⟨a, b, l, m, rfl, ha, hb, q1, q2, q⟩ := h
    refine ⟨_, (pss_cons (ps_expr (pe_call G_check_poly (hr.mono (by decide)) rfl g_check_poly k_check_poly b_check_poly .nil (passes_call (takes_of rfl rfl rfl rfl) (fun _ _ _ _ h => h)) (pa_cons (pv 0) pa_nil)))
  (pss_cons (ps_expr (pe_call G_check_poly (hr.mono (by decide)) rfl g_check_poly k_check_poly b_check_poly .nil (passes_call (takes_of rfl rfl rfl rfl) (fun _ _ _ _ h => h)) (pa_cons (pv 1) pa_nil)))
  (pss_cons (ps_if (L2.PW.pt (pw_or (pt_not (pt_truth (pv 0) (by intro _; rfl))) (pw_or1 (pt_not (pt_truth (pv 1) (by intro _; rfl)))))) (pss_one (ps_ret (pe_tup pa_nil))) pss_nil)
  (pss_cons (ps_if (pt_cmpR op_gt (pe_op op_sub (pe_op op_add (pe_callB call_len_seq (by rfl) z_len boot_len (pa_cons (pv 0) pa_nil)) (pe_callB call_len_seq (by rfl) z_len boot_len (pa_cons (pv 1) pa_nil))) pe_int) (pe_glob rfl m_MOST_PARTS r_MOST_PARTS) (nomark _)) (pss_one (ps_raise rfl (takes_of rfl rfl rfl rfl) (pmk_own PySem.F.excBase_ValueError x_TooLarge gc_TooLarge kc_TooLarge (raises_own bc_TooLarge tc_TooLarge) rfl))) pss_nil)
  (pss_cons (ps_set (i := 2) sc_multiplied_polys.nd rfl (.inl rfl) (pe_op op_rep (pe_lst (pa_cons pe_int pa_nil)) (pe_op op_sub (pe_op op_add (pe_callB call_len_seq (by rfl) z_len boot_len (pa_cons (pv 0) pa_nil)) (pe_callB call_len_seq (by rfl) z_len boot_len (pa_cons (pv 1) pa_nil))) pe_int)))
  (pss_cons (ps_for (passes_of rfl) rfl (pi_enumT rfl z_enumerate (pa_cons (pv 0) pa_nil)) (pg_tup rfl (pgs_cons (pg_name (i := 3) sc_multiplied_polys.nd rfl (.inl rfl)) (pgs_cons (pg_name (i := 4) sc_multiplied_polys.nd rfl (.inl rfl)) pgs_nil))) (pss_one (ps_for (passes_of rfl) rfl (pi_enumT rfl z_enumerate (pa_cons (pv 1) pa_nil)) (pg_tup rfl (pgs_cons (pg_name (i := 5) sc_multiplied_polys.nd rfl (.inl rfl)) (pgs_cons (pg_name (i := 6) sc_multiplied_polys.nd rfl (.inl rfl)) pgs_nil))) (pss_one (ps_asg (pe_op op_add (pe_ix ix_list (pv 2) (pe_op op_add (pv 3) (pv 5)) (fun _ _ => rfl)) (pe_op op_mul (pv 4) (pv 6))) (pg_sub (pv 2) (pe_op op_add (pv 3) (pv 5)) set_list))))))
  (pss_one (ps_ret (pe_callTy call_tuple_of (by rfl) z_tuple boot_tuple (pa_cons (pv 2) pa_nil)))))))))), ?_⟩
    have szl : 2000 ≤ sizeLine := by decide
    refine ⟨_, rfl, a, l, rfl, ha, fun e1 => ?_, q1⟩
    refine ⟨_, rfl, b, m, rfl, hb, fun e2 => ?_, q2 e1⟩
    obtain ⟨p1, h1⟩ := isP_pol e1
    obtain ⟨p2, h2⟩ := isP_pol e2
    obtain ⟨qT, q⟩ := q e1 e2
    have emp : (l = [] ∨ m = []) → ∀ t, H t = none → Q (.ref t) (upd H t (.tup [])) := fun c t nt => by
      have pl : prodLen l m = 0 := if_pos c
      refine (q (by omega)).2 t [] _ (same_upd nt) upd_same (.inl rfl) (fun k => ?_) pl.symm
      rw [show co [] k = 0 from co_ge (Nat.zero_le _)]
      rcases c with rfl | rfl
      · rfl
      · rw [conv_zero]
    refine ⟨_, rfl, _, .inr (.inl ⟨_, ha, rfl⟩), ?_⟩
    by_cases cl : l = []
    · subst cl
      exact iteT (iteT ⟨(by show 0 ≤ sizeLine; decide), fun t nt => emp (.inl rfl) t nt⟩)
    have il : (l.map V.int).isEmpty = false := by
      cases l with
      | nil => exact absurd rfl cl
      | cons _ _ => rfl
    rw [il]
    refine iteF ?_
    refine ⟨_, rfl, _, .inr (.inl ⟨_, hb, rfl⟩), ?_⟩
    by_cases cm : m = []
    · subst cm
      exact iteT ⟨(by show 0 ≤ sizeLine; decide), fun t nt => emp (.inr rfl) t nt⟩
    have im : (m.map V.int).isEmpty = false := by
      cases m with
      | nil => exact absurd rfl cm
      | cons _ _ => rfl
    rw [im]
    refine iteF ?_
    have pl : prodLen l m = l.length + m.length - 1 := if_neg (fun z => z.elim cl cm)
    have n1 := List.length_pos_iff.mpr cl
    have n2 := List.length_pos_iff.mpr cm
    refine ⟨_, rfl, a, _, rfl, .inr ha, _, rfl, b, _, rfl, .inr hb, _, _, rfl, rfl, _, _, rfl, rfl, _, _, rfl, rfl, _, rfl, ?_⟩
    rw [List.length_map, List.length_map]
    have e3 : ((l.length : Nat) : Int) + ((m.length : Nat) : Int) - 1 = ((prodLen l m : Nat) : Int) := by omega
    rw [e3]
    by_cases cT : prodLen l m > 200
    · rw [decide_eq_true (show ((prodLen l m : Nat) : Int) > 200 by omega)]
      exact iteT (qT cT)
    rw [decide_eq_false (show ¬ ((prodLen l m : Nat) : Int) > 200 by omega)]
    refine iteF ?_
    obtain ⟨hm, q⟩ := q (by omega)
    refine ⟨(by show 1 ≤ sizeLine; decide), fun z nz => ?_⟩
    have hz : SqT K (upd H z (.lst [.int 0])) a (l.map V.int) := sqT_same (same_upd nz) ha
    have hz2 : SqT K (upd H z (.lst [.int 0])) b (m.map V.int) := sqT_same (same_upd nz) hb
    refine ⟨_, rfl, a, _, rfl, .inr hz, _, rfl, b, _, rfl, .inr hz2, _, _, rfl, rfl, _, _, rfl, rfl, z, _, _, rfl, rfl, upd_same, ?_⟩
    rw [List.length_map, List.length_map, e3]
    generalize eN : prodLen l m = N at *
    refine ⟨by omega, by omega, by show 1 * _ ≤ sizeLine; omega, fun D nD => ?_⟩
    rw [show ((N : Nat) : Int).toNat = N from rfl, rep0]
    have s1 : Same H (upd (upd H z (.lst [.int 0])) D (.lst ((List.replicate N (0 : Int)).map V.int))) := Same.trans (same_upd nz) (same_upd nD)
    have hD1 : upd (upd H z (.lst [.int 0])) D (.lst ((List.replicate N (0 : Int)).map V.int)) D = some (.lst ((List.replicate N (0 : Int)).map V.int)) := upd_same
    have nD0 : H D = none := by
      by_cases e : D = z
      · rw [e]
        exact nz
      · rwa [upd_ne e] at nD
    revert s1 hD1
    generalize upd (upd H z (.lst [.int 0])) D (.lst ((List.replicate N (0 : Int)).map V.int)) = H1
    intro s1 hD1
    refine ⟨_, rfl, a, _, rfl, sqT_same s1 ha, for_it walk_enumT (fun i σ H' => ∃ v3 v4 v5 v6 ps, σ = [some (.ref a), some (.ref b), some (.ref D), v3, v4, v5, v6] ∧ Same H H' ∧ H' D = some (.lst (ps.map V.int)) ∧ ps.length = N ∧ ∀ k, co ps k = conv l m i k)
      ⟨none, none, none, none, _, rfl, s1, hD1, List.length_replicate, fun k => by rw [co_zeros]; rfl⟩ (fun i σ H' _ ⟨_, _, _, _, _, _, s', _⟩ => sqT_same s' ha) (fun i y σ H2 H3 hi hP hy => ?_) (fun σ H' hP => ?_)⟩
    · obtain ⟨v3, v4, v5, v6, ps, rfl, s2, hD2, lp, hc⟩ := hP
      obtain ⟨p, x, y', rfl, np, rfl, ex, ey⟩ := hy
      obtain rfl : V.int (i : Nat) = x := Option.some.inj ex
      have hi' : i < l.length := by rwa [List.length_map] at hi
      have ey2 : (l.map V.int)[i]? = some (.int (co l i)) := by rw [List.getElem?_map, co_get hi']; rfl
      obtain rfl : V.int (co l i) = y' := Option.some.inj (ey2.symm.trans ey)
      refine ⟨p, _, rfl, .inl (.inl upd_same), rfl, _, _, rfl, _, _, rfl, rfl, ?_⟩
      have s3 : Same H (upd H2 p (.tup [.int (i : Nat), .int (co l i)])) := Same.trans s2 (same_upd np)
      have hD3 : upd H2 p (.tup [.int (i : Nat), .int (co l i)]) D = some (.lst (ps.map V.int)) := by rw [upd_ne (ne_of_none hD2 np)]; exact hD2
      revert s3 hD3
      generalize upd H2 p (.tup [.int (i : Nat), .int (co l i)]) = H3
      intro s3 hD3
      refine ⟨_, rfl, b, _, rfl, sqT_same s3 hb, for_it walk_enumT (fun j σ H' => ∃ v5 v6 ps, σ = [some (.ref a), some (.ref b), some (.ref D), some (.int (i : Nat)), some (.int (co l i)), v5, v6] ∧ Same H H' ∧ H' D = some (.lst (ps.map V.int)) ∧ ps.length = N ∧ ∀ k, co ps k = part l m i j k)
        ⟨v5, v6, ps, rfl, s3, hD3, lp, fun k => by rw [hc, part_0]⟩ (fun i σ H' _ ⟨_, _, _, _, s', _⟩ => sqT_same s' hb) (fun j y σ H4 H5 hj hP hy => ?_) (fun σ H' hP => ?_)⟩
      · obtain ⟨v5, v6, ps, rfl, s4, hD4, lp, hc⟩ := hP
        obtain ⟨p2, x2, y2, rfl, np2, rfl, ex2, ey2⟩ := hy
        obtain rfl : V.int (j : Nat) = x2 := Option.some.inj ex2
        have hj' : j < m.length := by rwa [List.length_map] at hj
        have ey3 : (m.map V.int)[j]? = some (.int (co m j)) := by rw [List.getElem?_map, co_get hj']; rfl
        obtain rfl : V.int (co m j) = y2 := Option.some.inj (ey3.symm.trans ey2)
        refine ⟨p2, _, rfl, .inl (.inl upd_same), rfl, _, _, rfl, _, _, rfl, rfl, ?_⟩
        have s5 : Same H (upd H4 p2 (.tup [.int (j : Nat), .int (co m j)])) := Same.trans s4 (same_upd np2)
        have hD5 : upd H4 p2 (.tup [.int (j : Nat), .int (co m j)]) D = some (.lst (ps.map V.int)) := by rw [upd_ne (ne_of_none hD4 np2)]; exact hD4
        revert s5 hD5
        generalize upd H4 p2 (.tup [.int (j : Nat), .int (co m j)]) = H6
        intro s5 hD5
        have hij : i + j < ps.length := by omega
        have ea : ((i : Nat) : Int) + ((j : Nat) : Int) = ((i + j : Nat) : Int) := by omega
        refine ⟨_, rfl, _, rfl, _, rfl, _, _, rfl, rfl, D, _, _, _, rfl, rfl, .inl (.inl hD5), (by rw [ea]; exact at_co hij), _, rfl, _, rfl, _, _, rfl, rfl, hm _ (co_mem hi') _ (co_mem hj'), _, _, rfl, rfl, ?_⟩
        refine ⟨_, rfl, _, rfl, _, rfl, _, _, rfl, rfl, D, _, _, i + j, rfl, rfl, hD5, (by rw [ea]; exact ixN_nat (by rw [List.length_map]; exact hij)), ?_⟩
        refine ⟨_, _, ps.set (i + j) (co ps (i + j) + co l i * co m j), rfl, Same.mut s5 nD0, by rw [upd_same, map_set], by rw [List.length_set]; exact lp, fun k => ?_⟩
        rw [co_set k hij, part_step]
        by_cases c : k = i + j
        · rw [if_pos c, if_pos c, c, hc]
        · rw [if_neg c, if_neg c, hc]
      · obtain ⟨v5, v6, ps, rfl, s4, hD4, lp, hc⟩ := hP
        exact ⟨_, _, _, _, ps, rfl, s4, hD4, lp, fun k => by rw [hc, List.length_map, part_end]⟩
    · obtain ⟨v3, v4, v5, v6, ps, rfl, s2, hD2, lp, hc⟩ := hP
      refine ⟨_, rfl, D, _, rfl, .inl ⟨.inl (.inl hD2), fun t nt => ?_⟩⟩
      refine q t ps _ (Same.trans s2 (same_upd nt)) upd_same (.inr ?_) (fun k => by rw [hc, List.length_map]) lp
      rw [hc, List.length_map, lp, pl, show l.length + m.length - 1 - 1 = l.length + m.length - 2 by omega, conv_lead cl cm]
      exact Int.mul_ne_zero (p1.resolve_left cl) (p2.resolve_left cm)
end

theorem cut_last {l : List Int} : cutV (l.map V.int) none (some (-1)) = (l.take (l.length - 1)).map V.int := by
  unfold cutV
  rw [HT.sIx_none, List.length_map, List.drop_zero, Nat.sub_zero]
  have e : HT.sIx l.length l.length (some (-1)) = l.length - 1 := by
    show (if (-1 : Int) < 0 then ((-1 : Int) + (l.length : Int)).toNat else min (-1 : Int).toNat l.length) = _
    rw [if_pos (by decide)]
    omega
  rw [e, ← List.map_take]
/-- what lies behind i of the parts, from the end on -/
def hsum (x : Int) (l : List Int) (i : Nat) : List Int := (List.range i).map fun t => ev x (l.drop (l.length - 1 - t))
theorem hsum_len (x : Int) (l : List Int) (i : Nat) : (hsum x l i).length = i := by
  unfold hsum
  rw [List.length_map, List.length_range]
theorem hsum_more (x : Int) (l : List Int) (i : Nat) : hsum x l (i + 1) = hsum x l i ++ [ev x (l.drop (l.length - 1 - i))] := by
  unfold hsum
  rw [List.range_succ, List.map_append]
  rfl
def quo (x : Int) (l : List Int) : List Int := ((hsum x l l.length).take (l.length - 1)).reverse
theorem quo_len (x : Int) (l : List Int) : (quo x l).length = l.length - 1 := by
  unfold quo
  rw [List.length_reverse, List.length_take, hsum_len]
  omega
theorem quo_co (x : Int) (l : List Int) (k : Nat) : co (quo x l) k = ev x (l.drop (k + 1)) := by
  rcases Nat.lt_or_ge k (l.length - 1) with c | c
  · have hl : ((hsum x l l.length).take (l.length - 1)).length = l.length - 1 := by rw [List.length_take, hsum_len]; omega
    unfold co quo
    rw [List.getD_eq_getElem?_getD, List.getElem?_reverse (by omega), hl, List.getElem?_take_of_lt (by omega)]
    unfold hsum
    rw [List.getElem?_map, List.getElem?_range (by omega)]
    show ev x (l.drop (l.length - 1 - (l.length - 1 - 1 - k))) = _
    congr 2
    omega
  · rw [co_ge (by rw [quo_len]; exact c), List.drop_eq_nil_of_le (by omega)]
    rfl
def spSplit (K : PySem.W.Frag) : Sp := fun vs H Q _ => ∃ (a : Addr) (x : Int) (l : List Int), vs = [.ref a, .int x] ∧ (SqL K H a (l.map V.int) ∨ SqT K H a (l.map V.int)) ∧ l.length ≤ 1000 ∧ x.natAbs < 2 ^ 62 ∧
  ∀ t u H', Same H H' → H t = none → H u = none → H' t = some (.tup [.ref u, .int (ev x l)]) → H' u = some (.lst ((quo x l).map V.int)) → Q (.ref t) H'
section
variable {P : Program} {w : World} {K : PySem.W.Frag} {mg : Str → Option Value} {base : Heap}
/-! ### _split_off -/
theorem ok_split_off_ {f : Addr} {fd : FuncData} (F : Fun K "_split_off" "_split_off" s_split_off_ f fd) (z_reversed : mg "reversed" = none) : FnOk P w K mg base CX0 1 f fd ["parts", "x"] (spSplit K) := by
  refine F.ok sc_split_off_ (fun vs H Q E h => ?_) (fun cdv A outer s H vs Q E hr h => ?_)
  · obtain ⟨a, x, l, rfl, _⟩ := h
    rfl
  · obtain ⟨a, x, l, rfl, ha, hl, hx, q⟩ := h
    refine ⟨_, (pss_cons (ps_set (i := 2) sc_split_off_.nd rfl (.inl rfl) (pe_lst pa_nil))
  (pss_cons (ps_set (i := 3) sc_split_off_.nd rfl (.inl rfl) pe_int)
  (pss_cons (ps_for PassesOwn.never rfl (RT.pi_revA rfl z_reversed (pv 0)) (pg_name (i := 4) sc_split_off_.nd rfl (.inl rfl)) (pss_cons (ps_set (i := 3) sc_split_off_.nd rfl (.inl rfl) (pe_op op_add (pe_op op_mul (pv 3) (pv 1)) (pv 4)))
  (pss_one (ps_expr (pe_bm PySem.F.plainAttrs_list PySem.F.slot_list_append PySem.F.type_list_append mt_append (pv 2) (pa_cons (pv 3) pa_nil))))))
  (pss_one (ps_ret (pe_tup (pa_cons (pe_revL (pe_slice sl_list (pv 2) po_none (po_some (pe_un un_neg pe_int)))) (pa_cons (pv 3) pa_nil)))))))), ?_⟩
    have szl : 2000 ≤ sizeLine := by decide
    refine ⟨(by show 0 ≤ sizeLine; decide), fun D nD => ?_⟩
    have s1 : Same H (upd H D (.lst [])) := same_upd nD
    let Pv : Nat → L2.St → Hp → Prop := fun i σ H' => ∃ v4, σ = [some (.ref a), some (.int x), some (.ref D), some (.int (ev x (l.drop (l.length - i)))), v4] ∧ Same H H' ∧ H' D = some (.lst ((hsum x l i).map V.int))
    have p0 : Pv 0 [some (.ref a), some (.int x), some (.ref D), some (.int 0), none] (upd H D (.lst [])) := ⟨none, by rw [Nat.sub_zero, List.drop_length]; rfl, s1, upd_same⟩
    have get : ∀ (i : Nat) (y : V), i < (l.map V.int).length → (l.map V.int)[(l.map V.int).length - 1 - i]? = some y → y = .int (co l (l.length - 1 - i)) := fun i y hi hy => by
      rw [List.length_map] at hi hy
      rw [List.getElem?_map, co_get (by omega)] at hy
      exact (Option.some.inj hy).symm
    have step : ∀ i, i < l.length → ev x (l.drop (l.length - i)) * x + co l (l.length - 1 - i) = ev x (l.drop (l.length - (i + 1))) := fun i hi => by
      rw [show l.length - (i + 1) = l.length - 1 - i by omega, ev_drop x (i := l.length - 1 - i) (by omega), show l.length - 1 - i + 1 = l.length - i by omega, Int.mul_comm, Int.add_comm]
    have turn : ∀ (i : Nat) (y : V) (σ : L2.St) (H1 : Hp), i < (l.map V.int).length → (l.map V.int)[(l.map V.int).length - 1 - i]? = some y → Pv i σ H1 → True := fun _ _ _ _ _ _ _ => trivial
    have cm : ∀ z, CMul z x := fun z => .inr ⟨by omega, by omega⟩
    refine ⟨_, rfl, a, l.map V.int, rfl, ?_⟩
    rcases ha with ha | ha
    · refine .inl ⟨sqL_same s1 ha, ?_⟩
      refine RT.for_Itv Pv p0 (fun i σ H' ⟨_, _, s', _⟩ => sqL_same s' ha) (fun i y σ H' hi hy hP => ?_) (fun σ H' hP => ?_)
      · obtain rfl := get i y hi hy
        obtain ⟨v4, rfl, s2, hD⟩ := hP
        rw [List.length_map] at hi
        refine ⟨_, rfl, _, rfl, _, _, rfl, rfl, cm _, _, rfl, _, _, rfl, rfl, ?_⟩
        dsimp only
        rw [step i hi]
        refine ⟨_, rfl, .inl ⟨rfl, _, .inl (.inl hD)⟩, _, rfl, D, _, _, rfl, rfl, hD, by rw [List.length_map, hsum_len]; omega, ?_⟩
        refine ⟨_, rfl, Same.mut s2 nD, ?_⟩
        rw [upd_same, hsum_more, List.map_append, show l.length - (i + 1) = l.length - 1 - i by omega]
        rfl
      · obtain ⟨v4, rfl, s2, hD⟩ := hP
        rw [List.length_map, Nat.sub_self] at *
        refine ⟨_, rfl, _, rfl, _, rfl, D, _, rfl, .inl (.inl hD), fun p np => ?_⟩
        rw [cut_last, hsum_len]
        refine ⟨p, _, rfl, .inl (.inl upd_same), fun u nu => ?_⟩
        rw [← List.map_reverse]
        refine ⟨_, rfl, (by show 2 ≤ sizeLine; decide), fun t nt => ?_⟩
        have h1 : H' p = none := np
        have s3 : Same H (upd H' p (.lst (((hsum x l l.length).take (l.length - 1)).map V.int))) := Same.trans s2 (same_upd np)
        have s4 : Same H (upd (upd H' p (.lst (((hsum x l l.length).take (l.length - 1)).map V.int))) u (.lst ((quo x l).map V.int))) := Same.trans s3 (same_upd nu)
        have hu : upd (upd H' p (.lst (((hsum x l l.length).take (l.length - 1)).map V.int))) u (.lst ((quo x l).map V.int)) u = some (.lst ((quo x l).map V.int)) := upd_same
        exact q t u _ (Same.trans s4 (same_upd nt)) (none_back s4 nt) (none_back s3 nu) upd_same (by rw [upd_ne (ne_of_none hu nt)]; exact hu)
    · refine .inr ⟨sqT_same s1 ha, ?_⟩
      refine RT.for_ItvT Pv p0 (fun i σ H' ⟨_, _, s', _⟩ => sqT_same s' ha) (fun i y σ H' hi hy hP => ?_) (fun σ H' hP => ?_)
      · obtain rfl := get i y hi hy
        obtain ⟨v4, rfl, s2, hD⟩ := hP
        rw [List.length_map] at hi
        refine ⟨_, rfl, _, rfl, _, _, rfl, rfl, cm _, _, rfl, _, _, rfl, rfl, ?_⟩
        dsimp only
        rw [step i hi]
        refine ⟨_, rfl, .inl ⟨rfl, _, .inl (.inl hD)⟩, _, rfl, D, _, _, rfl, rfl, hD, by rw [List.length_map, hsum_len]; omega, ?_⟩
        refine ⟨_, rfl, Same.mut s2 nD, ?_⟩
        rw [upd_same, hsum_more, List.map_append, show l.length - (i + 1) = l.length - 1 - i by omega]
        rfl
      · obtain ⟨v4, rfl, s2, hD⟩ := hP
        rw [List.length_map, Nat.sub_self] at *
        refine ⟨_, rfl, _, rfl, _, rfl, D, _, rfl, .inl (.inl hD), fun p np => ?_⟩
        rw [cut_last, hsum_len]
        refine ⟨p, _, rfl, .inl (.inl upd_same), fun u nu => ?_⟩
        rw [← List.map_reverse]
        refine ⟨_, rfl, (by show 2 ≤ sizeLine; decide), fun t nt => ?_⟩
        have h1 : H' p = none := np
        have s3 : Same H (upd H' p (.lst (((hsum x l l.length).take (l.length - 1)).map V.int))) := Same.trans s2 (same_upd np)
        have s4 : Same H (upd (upd H' p (.lst (((hsum x l l.length).take (l.length - 1)).map V.int))) u (.lst ((quo x l).map V.int))) := Same.trans s3 (same_upd nu)
        have hu : upd (upd H' p (.lst (((hsum x l l.length).take (l.length - 1)).map V.int))) u (.lst ((quo x l).map V.int)) u = some (.lst ((quo x l).map V.int)) := upd_same
        exact q t u _ (Same.trans s4 (same_upd nt)) (none_back s4 nt) (none_back s3 nu) upd_same (by rw [upd_ne (ne_of_none hu nt)]; exact hu)
end

def spValueAt (K : PySem.W.Frag) (CP : Addr) : Sp := fun vs H Q E => ∃ (a : Addr) (x : Int) (l : List Int), vs = [.ref a, .int x] ∧ SqT K H a (l.map V.int) ∧ (isP l = false → E (.ref CP) none H) ∧ (isP l = true → x.natAbs < 2 ^ 62 ∧ ∀ H', Same H H' → Q (.int (ev x l)) H')
section
variable {P : Program} {w : World} {K : PySem.W.Frag} {mg : Str → Option Value} {base : Heap}
/-! ### value_at -/
theorem ok_value_at {f CP a_check_poly a_split_off_ : Addr} {fd fd_check_poly fd_split_off_ : FuncData} (F : Fun K "value_at" "value_at" s_value_at f fd)
    (G_check_poly : FnOk P w K mg base (L2.CX P w) 2 a_check_poly fd_check_poly ["poly"] (spCheckPoly K CP)) (g_check_poly : mg "check_poly" = some (.ref a_check_poly)) (k_check_poly : PySem.W.keepIn K (.ref a_check_poly) = true) (b_check_poly : Binds K fd_check_poly ["poly"] [])
    (G_split_off_ : FnOk P w K mg base CX0 1 a_split_off_ fd_split_off_ ["parts", "x"] (spSplit K)) (g_split_off_ : mg "_split_off" = some (.ref a_split_off_)) (k_split_off_ : PySem.W.keepIn K (.ref a_split_off_) = true) (b_split_off_ : Binds K fd_split_off_ ["parts", "x"] []) : FnOk P w K mg base (L2.CX P w) 3 f fd ["poly", "x"] (spValueAt K CP) := by
  refine F.okX sc_value_at (fun vs H Q E h => ?_) (fun cdv A outer s H vs Q E hr h => ?_)
  · obtain ⟨a, x, l, rfl, _⟩ := h
    rfl
  · obtain ⟨a, x, l, rfl, ha, q1, q2⟩ := h
    refine ⟨_, (pss_cons (ps_expr (pe_call G_check_poly (hr.mono (by decide)) rfl g_check_poly k_check_poly b_check_poly .nil (passes_call (takes_of rfl rfl rfl rfl) (fun _ _ _ _ h => h)) (pa_cons (pv 0) pa_nil)))
  (pss_cons (ps_asg (pe_call G_split_off_ (hr.mono (by decide)) rfl g_split_off_ k_split_off_ b_split_off_ .nil pass0 (pa_cons (pv 0) (pa_cons (pv 1) pa_nil))) (pg_tup rfl (pgs_cons (pg_name (i := 2) sc_value_at.nd rfl (.inl rfl)) (pgs_cons (pg_name (i := 3) sc_value_at.nd rfl (.inl rfl)) pgs_nil))))
  (pss_one (ps_ret (pv 3))))), ?_⟩
    refine ⟨_, rfl, a, l, rfl, ha, fun e1 => ?_, q1⟩
    obtain ⟨hx, q⟩ := q2 e1
    have h1 := (isP_pol e1).2
    refine ⟨_, rfl, _, rfl, a, x, l, rfl, .inr ha, by omega, hx, fun t u H' s' _ _ ht hu => ?_⟩
    exact ⟨t, _, rfl, .inl (.inl ht), rfl, _, _, rfl, _, _, rfl, rfl, _, rfl, q H' s'⟩
end

/-- how often x is a root, at most n times -/
def rcn (x : Int) : Nat → List Int → Nat
  | 0, _ => 0
  | n + 1, l => if ev x l = 0 then rcn x n (quo x l) + 1 else 0
theorem ev_ne {x : Int} {l : List Int} (hl : l.length = 1) (h : co l 0 ≠ 0) : ev x l ≠ 0 := by
  match l, hl with
  | [a], _ =>
    show a + x * 0 ≠ 0
    rw [Int.mul_zero, Int.add_zero]
    exact h
theorem quo_lead {x : Int} {l : List Int} (h : 2 ≤ l.length) : co (quo x l) (l.length - 2) = co l (l.length - 1) := by
  rw [quo_co, show l.length - 2 + 1 = l.length - 1 by omega, ev_drop x (by omega), show l.length - 1 + 1 = l.length by omega, List.drop_length]
  show _ + x * 0 = _
  rw [Int.mul_zero, Int.add_zero]
theorem quo_pol {x : Int} {l : List Int} (hl : l ≠ []) (pl : Pol l) (h : ev x l = 0) : 2 ≤ l.length ∧ quo x l ≠ [] ∧ Pol (quo x l) ∧ (quo x l).length = l.length - 1 := by
  have n0 := List.length_pos_iff.mpr hl
  have lead := pl.resolve_left hl
  have l2 : 2 ≤ l.length := by
    refine Decidable.byContradiction fun z => ?_
    have e : l.length = 1 := by omega
    rw [e] at lead
    exact ev_ne e lead h
  have lq := quo_len x l
  have qn : quo x l ≠ [] := fun z => by
    rw [z] at lq
    have : 0 = l.length - 1 := lq
    omega
  refine ⟨l2, qn, .inr ?_, lq⟩
  rw [lq, show l.length - 1 - 1 = l.length - 2 by omega, quo_lead l2]
  exact lead
theorem rcn_more {x : Int} : ∀ (n : Nat) {l : List Int}, l ≠ [] → Pol l → l.length ≤ n → rcn x n l = rcn x l.length l
  | 0, l, hl, _, h => absurd (List.eq_nil_of_length_eq_zero (by omega)) hl
  | n + 1, l, hl, pl, h => by
    obtain ⟨k, hk⟩ : ∃ k, l.length = k + 1 := ⟨l.length - 1, by have := List.length_pos_iff.mpr hl; omega⟩
    rw [hk]
    show (if ev x l = 0 then rcn x n (quo x l) + 1 else 0) = (if ev x l = 0 then rcn x k (quo x l) + 1 else 0)
    by_cases c : ev x l = 0
    · rw [if_pos c, if_pos c]
      obtain ⟨_, q1, q2, q3⟩ := quo_pol hl pl c
      rw [rcn_more n q1 q2 (by omega), rcn_more k q1 q2 (by omega)]
    · rw [if_neg c, if_neg c]
termination_by n => n
section
variable {P : Program} {w : World} {K : PySem.W.Frag} {mg : Str → Option Value} {base : Heap}
/-! ### _root_count -/
def spRootCount (K : PySem.W.Frag) : Sp := fun vs H Q _ => ∃ (a : Addr) (x : Int) (l : List Int), vs = [.ref a, .int x] ∧ SqT K H a (l.map V.int) ∧ Pol l ∧ l ≠ [] ∧ l.length ≤ 1000 ∧ x.natAbs < 2 ^ 62 ∧ ∀ H', Same H H' → Q (.int (rcn x l.length l : Nat)) H'
theorem ok_root_count_ {f a_split_off_ : Addr} {fd fd_split_off_ : FuncData} (F : Fun K "_root_count" "_root_count" s_root_count_ f fd)
    (G_split_off_ : FnOk P w K mg base CX0 1 a_split_off_ fd_split_off_ ["parts", "x"] (spSplit K)) (g_split_off_ : mg "_split_off" = some (.ref a_split_off_)) (k_split_off_ : PySem.W.keepIn K (.ref a_split_off_) = true) (b_split_off_ : Binds K fd_split_off_ ["parts", "x"] []) : FnOk P w K mg base CX0 2 f fd ["poly", "x"] (spRootCount K) := by
  refine F.ok sc_root_count_ (fun vs H Q E h => ?_) (fun cdv A outer s H vs Q E hr h => ?_)
  · obtain ⟨a, x, l, rfl, _⟩ := h
    rfl
  · obtain ⟨a, x, l, rfl, ha, pl, hl, ll, hx, q⟩ := h
    refine ⟨_, (pss_cons (ps_set (i := 2) sc_root_count_.nd rfl (.inl rfl) pe_int)
  (pss_cons (ps_asg (pe_call G_split_off_ (hr.mono (by decide)) rfl g_split_off_ k_split_off_ b_split_off_ .nil pass0 (pa_cons (pv 0) (pa_cons (pv 1) pa_nil))) (pg_tup rfl (pgs_cons (pg_name (i := 3) sc_root_count_.nd rfl (.inl rfl)) (pgs_cons (pg_name (i := 4) sc_root_count_.nd rfl (.inl rfl)) pgs_nil))))
  (pss_cons (ps_while PassesOwn.never (pt_cmpR op_eq (pv 4) pe_int (nomark _)) (pss_cons (ps_aug (i := 2) sc_root_count_.nd rfl (.inl rfl) pe_int ip_add)
  (pss_one (ps_asg (pe_call G_split_off_ (hr.mono (by decide)) rfl g_split_off_ k_split_off_ b_split_off_ .nil pass0 (pa_cons (pv 3) (pa_cons (pv 1) pa_nil))) (pg_tup rfl (pgs_cons (pg_name (i := 3) sc_root_count_.nd rfl (.inl rfl)) (pgs_cons (pg_name (i := 4) sc_root_count_.nd rfl (.inl rfl)) pgs_nil)))))))
  (pss_one (ps_ret (pv 2)))))), ?_⟩
    refine ⟨_, rfl, _, rfl, a, x, l, rfl, .inr ha, ll, hx, fun t u H1 s1 nt nu ht hu => ?_⟩
    refine ⟨t, _, rfl, .inl (.inl ht), rfl, _, _, rfl, _, _, rfl, rfl, ?_⟩
    refine ⟨fun M σ H' => ∃ (n : Nat) (cur : List Int) (u : Addr), M = cur.length ∧ σ = [some (.ref a), some (.int x), some (.int (n : Int)), some (.ref u), some (.int (ev x cur))] ∧ Same H H' ∧ H' u = some (.lst ((quo x cur).map V.int)) ∧ Pol cur ∧ cur ≠ [] ∧ cur.length ≤ 1000 ∧
      n + rcn x cur.length cur = rcn x l.length l, ⟨_, 0, l, u, rfl, rfl, s1, hu, pl, hl, ll, Nat.zero_add _⟩, ?_⟩
    rintro M σ H2 ⟨n, cur, u2, rfl, rfl, s2, hu2, pc, nc, lc, e⟩
    refine ⟨_, rfl, rfl, _, rfl, ?_⟩
    have n0 := List.length_pos_iff.mpr nc
    have e1 : rcn x cur.length cur = if ev x cur = 0 then rcn x (cur.length - 1) (quo x cur) + 1 else 0 := by
      obtain ⟨k, hk⟩ : ∃ k, cur.length = k + 1 := ⟨cur.length - 1, by omega⟩
      rw [hk]
      rfl
    by_cases c : ev x cur = 0
    · rw [decide_eq_true (congrArg V.int c)]
      obtain ⟨l2, q1, q2, q3⟩ := quo_pol nc pc c
      rw [if_pos c] at e1
      refine iteT ⟨_, fun _ _ n => n, _, rfl, _, _, rfl, rfl, _, rfl, _, rfl, u2, x, quo x cur, rfl, .inl (.inl (.inl hu2)), by omega, hx, fun t2 u3 H3 s3 nt2 nu3 ht2 hu3 => ?_⟩
      refine ⟨t2, _, rfl, .inl (.inl ht2), rfl, _, _, rfl, _, _, rfl, rfl, ?_⟩
      exact ⟨(quo x cur).length, by omega, n + 1, quo x cur, u3, rfl, rfl, Same.trans s2 s3, hu3, q2, q1, by omega, by rw [q3]; omega⟩
    · rw [decide_eq_false (fun z => c (V.int.inj z))]
      rw [if_neg c] at e1
      refine iteF ⟨_, rfl, ?_⟩
      have : n = rcn x l.length l := by omega
      rw [this]
      exact q _ s2
end

def rtD (l : List Int) (x : Int) : List PyData := if 0 < rcn x l.length l then [.tuple [.int x, .int (rcn x l.length l : Nat)]] else []
def rootsD (l : List Int) (lo : Int) : Nat → List PyData
  | 0 => []
  | n + 1 => rootsD l lo n ++ rtD l (lo + (n : Int))
def spRoots (K : PySem.W.Frag) (CP CB CN : Addr) : Sp := fun vs H Q E => ∃ (a : Addr) (most : Int) (l : List Int), vs = [.ref a, .int most] ∧ SqT K H a (l.map V.int) ∧ (isP l = false → E (.ref CP) none H) ∧ (isP l = true → (l = [] → E (.ref CN) none H) ∧ (l ≠ [] → (¬ (0 ≤ most ∧ most ≤ 1000) → E (.ref CB) none H) ∧
  (0 ≤ most → most ≤ 1000 → ∀ D us H', Same H H' → H D = none → H' D = some (.lst us) → Paired (Val1 H') us (rootsD l (-most) (most + 1 - -most).toNat) → Q (.ref D) H')))
section
variable {P : Program} {w : World} {K : PySem.W.Frag} {mg : Str → Option Value} {base : Heap}
/-! ### roots -/
theorem ok_roots {f CP CB CN a_check_poly a_root_count_ : Addr} {fd fd_check_poly fd_root_count_ : FuncData} {tr : Tok} (F : FunA K "roots" "roots" s_roots f fd) (z_range : mg "range" = none) (m_MOST_ROOT : mg "MOST_ROOT" = some (.int 1000 tr))
    (T : ErrC K mg "BadNumber" CB) (T2 : ErrC K mg "NoAnswer" CN)
    (G_check_poly : FnOk P w K mg base (L2.CX P w) 2 a_check_poly fd_check_poly ["poly"] (spCheckPoly K CP)) (g_check_poly : mg "check_poly" = some (.ref a_check_poly)) (k_check_poly : PySem.W.keepIn K (.ref a_check_poly) = true) (b_check_poly : Binds K fd_check_poly ["poly"] [])
    (G_root_count_ : FnOk P w K mg base CX0 2 a_root_count_ fd_root_count_ ["poly", "x"] (spRootCount K)) (g_root_count_ : mg "_root_count" = some (.ref a_root_count_)) (k_root_count_ : PySem.W.keepIn K (.ref a_root_count_) = true) (b_root_count_ : Binds K fd_root_count_ ["poly", "x"] []) :
    FnOk P w K mg base (L2.CX P w) 3 f fd ["poly", "most"] (spRoots K CP CB CN) := by
  obtain ⟨gc_BadNumber, x_BadNumber, kc_BadNumber, bc_BadNumber, tc_BadNumber⟩ := T
  obtain ⟨gc_NoAnswer, x_NoAnswer, kc_NoAnswer, bc_NoAnswer, tc_NoAnswer⟩ := T2
  have r_MOST_ROOT : RelV (.int 1000) (.int 1000 tr) := ⟨_, rfl⟩
  refine F.okX sc_roots (fun vs H Q E h => ?_) (fun cdv A outer s H vs Q E hr h => ?_)
  · obtain ⟨a, most, l, rfl, _⟩ := h
    rfl
  · obtain ⟨a, most, l, rfl, ha, q1, q⟩ := h
    refine ⟨_, (pss_cons (ps_expr (pe_call G_check_poly (hr.mono (by decide)) rfl g_check_poly k_check_poly b_check_poly .nil (passes_call (takes_of rfl rfl rfl rfl) (fun _ _ _ _ h => h)) (pa_cons (pv 0) pa_nil)))
  (pss_cons (ps_if (pt_not (pt_truth (pv 0) (by intro _; rfl))) (pss_one (ps_raise rfl (takes_of rfl rfl rfl rfl) (pmk_own PySem.F.excBase_ValueError x_NoAnswer gc_NoAnswer kc_NoAnswer (raises_own bc_NoAnswer tc_NoAnswer) rfl))) pss_nil)
  (pss_cons (ps_if (pt_not (pt_chain op_le op_le pe_int (pv 1) (pe_glob rfl m_MOST_ROOT r_MOST_ROOT))) (pss_one (ps_raise rfl (takes_of rfl rfl rfl rfl) (pmk_own PySem.F.excBase_ValueError x_BadNumber gc_BadNumber kc_BadNumber (raises_own bc_BadNumber tc_BadNumber) rfl))) pss_nil)
  (pss_cons (ps_set (i := 2) sc_roots.nd rfl (.inl rfl) (pe_lst pa_nil))
  (pss_cons (ps_for (passes_of rfl) rfl (pi_range2 rfl z_range (pa_cons (pe_un un_neg (pv 1)) (pa_cons (pe_op op_add (pv 1) pe_int) pa_nil))) (pg_name (i := 3) sc_roots.nd rfl (.inl rfl)) (pss_cons (ps_set (i := 4) sc_roots.nd rfl (.inl rfl) (pe_call G_root_count_ (hr.mono (by decide)) rfl g_root_count_ k_root_count_ b_root_count_ .nil pass0 (pa_cons (pv 0) (pa_cons (pv 3) pa_nil))))
  (pss_one (ps_if (pt_cmpR op_gt (pv 4) pe_int (nomark _)) (pss_one (ps_expr (pe_bm PySem.F.plainAttrs_list PySem.F.slot_list_append PySem.F.type_list_append mt_append (pv 2) (pa_cons (pe_tup (pa_cons (pv 3) (pa_cons (pv 4) pa_nil))) pa_nil)))) pss_nil))))
  (pss_one (ps_ret (pv 2)))))))), ?_⟩
    have szl : 3000 ≤ sizeLine := by decide
    refine ⟨_, rfl, a, l, rfl, ha, fun e1 => ?_, q1⟩
    obtain ⟨p1, h1⟩ := isP_pol e1
    obtain ⟨qN, q⟩ := q e1
    refine ⟨_, rfl, _, .inr (.inl ⟨_, ha, rfl⟩), ?_⟩
    by_cases cl : l = []
    · subst cl
      exact iteT (qN rfl)
    have il : (l.map V.int).isEmpty = false := by
      cases l with
      | nil => exact absurd rfl cl
      | cons _ _ => rfl
    rw [il]
    refine iteF ?_
    obtain ⟨qB, q⟩ := q cl
    refine ⟨_, rfl, _, _, rfl, rfl, _, rfl, ?_⟩
    by_cases c0 : 0 ≤ most
    · rw [decide_eq_true c0]
      refine iteT ⟨_, _, rfl, rfl, _, rfl, ?_⟩
      by_cases c1 : most ≤ 1000
      · rw [decide_eq_true c1]
        refine iteF ?_
        have q := q c0 c1
        refine ⟨(by show 0 ≤ sizeLine; decide), fun D nD => ?_⟩
        refine ⟨_, rfl, _, rfl, _, rfl, _, _, rfl, rfl, _, _, rfl, ⟨by omega, by omega, by omega, by omega⟩, for_range (lo := -most) (n := (most + 1 - -most).toNat) (fun i σ H' => ∃ (v3 v4 : Option V) (us : List V), σ = [some (.ref a), some (.int most), some (.ref D), v3, v4] ∧ Same H H' ∧ H' D = some (.lst us) ∧ us.length ≤ i ∧ Paired (Val1 H') us (rootsD l (-most) i))
          ⟨none, none, [], rfl, same_upd nD, upd_same, Nat.le_refl _, .nil⟩ (fun i σ H2 hi hP => ?_) (fun σ H' hP => ?_)⟩
        · obtain ⟨v3, v4, us, rfl, s2, hD2, lu, pr⟩ := hP
          refine ⟨_, rfl, _, rfl, a, _, l, rfl, sqT_same s2 ha, p1, cl, by omega, by omega, fun H3 s3 => ?_⟩
          have hD3 := s3 _ _ hD2
          refine ⟨_, rfl, _, _, rfl, rfl, _, rfl, ?_⟩
          generalize ex : -most + (i : Int) = x
          have er : rootsD l (-most) (i + 1) = rootsD l (-most) i ++ rtD l x := by
            rw [← ex]
            rfl
          by_cases cr : 0 < rcn x l.length l
          · rw [decide_eq_true (show ((rcn x l.length l : Nat) : Int) > 0 by omega)]
            refine iteT ?_
            refine ⟨_, rfl, .inl ⟨rfl, _, .inl (.inl hD3)⟩, _, rfl, _, rfl, (by show 2 ≤ sizeLine; decide), fun p np => ?_⟩
            have s4 := same_upd (o := .tup [.int x, .int (rcn x l.length l : Nat)]) np
            have hD4 := s4 _ _ hD3
            refine ⟨D, _, _, rfl, rfl, hD4, by omega, ?_⟩
            refine ⟨_, _, us ++ [.ref p], rfl, Same.mut (Same.trans s2 (Same.trans s3 s4)) nD, upd_same, by rw [List.length_append]; exact Nat.succ_le_succ lu, ?_⟩
            rw [er]
            unfold rtD
            rw [if_pos cr]
            refine paired_snoc ?_ (Paired.mapP pr fun _ _ h => ((h.same s3).same s4).but SameBut.upd hD4)
            exact (Val1.pair upd_same).but SameBut.upd hD4
          · rw [decide_eq_false (show ¬ ((rcn x l.length l : Nat) : Int) > 0 by omega)]
            refine iteF ⟨_, _, us, rfl, Same.trans s2 s3, hD3, by omega, ?_⟩
            rw [er]
            unfold rtD
            rw [if_neg cr, List.append_nil]
            exact Paired.mapP pr fun _ _ h => h.same s3
        · obtain ⟨v3, v4, us, rfl, s2, hD2, lu, pr⟩ := hP
          exact ⟨_, rfl, q D us H' s2 nD hD2 pr⟩
      · rw [decide_eq_false c1]
        exact iteT (qB (fun z => c1 z.2))
    · rw [decide_eq_false c0]
      exact iteF ⟨_, rfl, iteT (qB (fun z => c0 z.1))⟩
end

/-- (c, 1) times l, p carried -/
def linL (c : Int) : Int → List Int → List Int
  | p, [] => [p]
  | p, a :: r => (c * a + p) :: linL c a r
theorem linL_len (c : Int) : ∀ (l : List Int) (p : Int), (linL c p l).length = l.length + 1
  | [], _ => rfl
  | a :: r, p => congrArg Nat.succ (linL_len c r a)
theorem co_cons0 (a : Int) (r : List Int) : co (a :: r) 0 = a := rfl
theorem co_consS (a : Int) (r : List Int) (k : Nat) : co (a :: r) (k + 1) = co r k := rfl
theorem linL_co (c : Int) : ∀ (l : List Int) (p : Int) (k : Nat), co (linL c p l) k = c * co l k + (match k with | 0 => p | k + 1 => co l k)
  | [], p, 0 => by
    rw [show co [] 0 = 0 from rfl, Int.mul_zero, Int.zero_add]
    rfl
  | [], p, k + 1 => by
    show co [p] (k + 1) = c * co [] (k + 1) + co [] k
    have h1 : co [p] (k + 1) = 0 := co_ge (by show 1 ≤ k + 1; omega)
    have h2 : ∀ i, co [] i = 0 := fun i => co_ge (Nat.zero_le _)
    rw [h1, h2, h2, Int.mul_zero]
    rfl
  | a :: r, p, 0 => rfl
  | a :: r, p, k + 1 => by
    show co (linL c a r) k = c * co r k + co (a :: r) k
    rw [linL_co c r a k]
    cases k <;> rfl
theorem linL_ev (x c : Int) : ∀ (l : List Int) (p : Int), ev x (linL c p l) = p + (c + x) * ev x l
  | [], p => by
    show p + x * 0 = p + (c + x) * 0
    rw [Int.mul_zero, Int.mul_zero]
  | a :: r, p => by
    show c * a + p + x * ev x (linL c a r) = p + (c + x) * (a + x * ev x r)
    rw [linL_ev x c r a]
    grind
def shf (c : Int) (g : Nat → Int) (k : Nat) : Int := c * g k + (match k with | 0 => 0 | k + 1 => g k)
theorem conv_lin (l : List Int) (c : Int) (k : Nat) : conv l [c, 1] l.length k = co (linL c 0 l) k := by
  rw [conv_mulc, linL_co]
  unfold mulc
  have z : ∀ i, 2 ≤ i → co [c, 1] i = 0 := fun i hi => co_ge hi
  cases k with
  | zero =>
    show 0 + co l 0 * co [c, 1] 0 = c * co l 0 + 0
    rw [show co [c, 1] 0 = c from rfl, Int.mul_comm]
    omega
  | succ k =>
    show ms (co l) (co [c, 1]) k (k + 1) + co l k * co [c, 1] (k + 1 - k) + co l (k + 1) * co [c, 1] (k + 1 - (k + 1)) = c * co l (k + 1) + co l k
    rw [ms_zero k (fun i hi => by rw [z _ (by omega), Int.mul_zero]), show k + 1 - k = 1 by omega, Nat.sub_self, show co [c, 1] 0 = c from rfl, show co [c, 1] 1 = 1 from rfl, Int.mul_one, Int.mul_comm]
    omega
/-- the products of s * 0 + d, s * 1 + d, .. -/
def facL (s : Int) : Nat → List Int
  | 0 => [1]
  | n + 1 => linL (s * (n : Int)) 0 (facL s n)
theorem facL_len (s : Int) : ∀ n, (facL s n).length = n + 1
  | 0 => rfl
  | n + 1 => by
    show (linL _ _ _).length = _
    rw [linL_len, facL_len s n]
theorem facL_top (s : Int) : ∀ n, co (facL s n) n = 1
  | 0 => rfl
  | n + 1 => by
    show co (linL _ _ _) (n + 1) = 1
    rw [linL_co, co_ge (by rw [facL_len]; omega), Int.mul_zero, Int.zero_add]
    exact facL_top s n
theorem facL_pol (s : Int) (n : Nat) : Pol (facL s n) := .inr (by rw [facL_len, Nat.add_sub_cancel, facL_top]; decide)
theorem facL_ne (s : Int) (n : Nat) : facL s n ≠ [] := fun z => by
  have := facL_len s n
  rw [z] at this
  exact nomatch this
theorem facL_small {s : Int} {c : Nat} (hs : s.natAbs ≤ 1) : ∀ n, n ≤ c → ∀ k, (co (facL s n) k).natAbs ≤ (c + 1) ^ n
  | 0, _, k => by
    cases k with
    | zero => exact Nat.le_refl 1
    | succ k => rw [show co (facL s 0) (k + 1) = 0 from co_ge (by show 1 ≤ k + 1; omega)]; exact Nat.zero_le _
  | n + 1, h, k => by
    show (co (linL _ _ _) k).natAbs ≤ _
    rw [linL_co, Nat.pow_succ, Nat.mul_add, Nat.mul_one]
    have ih := facL_small (s := s) (c := c) hs n (by omega)
    have h1 : (s * (n : Int) * co (facL s n) k).natAbs ≤ c * (c + 1) ^ n := by
      rw [Int.natAbs_mul]
      refine Nat.mul_le_mul ?_ (ih k)
      rw [Int.natAbs_mul]
      exact Nat.le_trans (Nat.mul_le_mul hs (Nat.le_refl _)) (by omega)
    have h2 : (match k with | 0 => (0 : Int) | k + 1 => co (facL s n) k).natAbs ≤ (c + 1) ^ n := by
      cases k with
      | zero => exact Nat.zero_le _
      | succ k => exact ih k
    rw [Nat.mul_comm] at h1
    omega
theorem facL_evz {x : Int} : ∀ {n : Nat}, ev x (facL (-1) n) = 0 → 0 ≤ x ∧ x < n
  | 0, h => by
    have : (1 : Int) + x * 0 = 0 := h
    omega
  | n + 1, h => by
    have e : ev x (facL (-1) (n + 1)) = 0 + (-1 * (n : Int) + x) * ev x (facL (-1) n) := linL_ev ..
    rw [e, Int.zero_add] at h
    rcases Int.mul_eq_zero.mp h with h | h
    · omega
    · have := facL_evz h
      omega
theorem facL_ev_small {s x : Int} {c : Nat} (hs : s.natAbs ≤ 1) (hx : x.natAbs ≤ c) : ∀ n, n ≤ c → (ev x (facL s n)).natAbs ≤ (2 * c) ^ n
  | 0, _ => by
    show ((1 : Int) + x * 0).natAbs ≤ 1
    omega
  | n + 1, h => by
    have e : ev x (facL s (n + 1)) = 0 + (s * (n : Int) + x) * ev x (facL s n) := linL_ev ..
    rw [e, Int.zero_add, Int.natAbs_mul, Nat.pow_succ, Nat.mul_comm]
    refine Nat.mul_le_mul (facL_ev_small hs hx n (by omega)) ?_
    have h1 : (s * (n : Int)).natAbs ≤ c := by
      rw [Int.natAbs_mul]
      exact Nat.le_trans (Nat.mul_le_mul hs (Nat.le_refl _)) (by omega)
    omega
/-- what is left behind k divisions by d, d - 1, .. -/
def rests (l : List Int) : Nat → List Int
  | 0 => l
  | k + 1 => quo (k : Int) (rests l k)
theorem rests_len (l : List Int) : ∀ k, (rests l k).length = l.length - k
  | 0 => rfl
  | k + 1 => by
    show (quo _ _).length = _
    rw [quo_len, rests_len l k]
    omega
def byF (l : List Int) (k : Nat) : Int := ev (k : Int) (rests l k)
/-- l is ev a l and (d - a) times the quotient -/
theorem quo_split (a : Int) (l : List Int) (k : Nat) : co l k = (if k = 0 then ev a l else 0) + shf (-a) (co (quo a l)) k := by
  unfold shf
  cases k with
  | zero =>
    show co l 0 = ev a l + (-a * co (quo a l) 0 + 0)
    rw [quo_co]
    have e : ev a l = co l 0 + a * ev a (l.drop 1) := by
      rcases Nat.eq_zero_or_pos l.length with c | c
      · rw [List.eq_nil_of_length_eq_zero c]
        show (0 : Int) = 0 + a * 0
        omega
      · exact ev_drop a (l := l) (i := 0) c
    rw [e]
    grind
  | succ k =>
    show co l (k + 1) = 0 + (-a * co (quo a l) (k + 1) + co (quo a l) k)
    rw [quo_co, quo_co]
    rcases Nat.lt_or_ge (k + 1) l.length with c | c
    · rw [ev_drop a c]
      grind
    · rw [co_ge c, List.drop_eq_nil_of_le (by omega), List.drop_eq_nil_of_le (by omega)]
      show (0 : Int) = 0 + (-a * 0 + 0)
      omega
theorem ev_zero (x : Int) : ∀ {m : List Int}, (∀ k, co m k = 0) → ev x m = 0
  | [], _ => rfl
  | a :: r, h => by
    have h0 : a = 0 := h 0
    have h1 : ev x r = 0 := ev_zero x fun k => h (k + 1)
    show a + x * ev x r = 0
    rw [h0, h1]
    omega
theorem ev_ext {x : Int} : ∀ {l m : List Int}, (∀ k, co l k = co m k) → ev x l = ev x m
  | [], m, h => (ev_zero x fun k => (h k).symm.trans (co_ge (Nat.zero_le _))).symm
  | a :: r, [], h => ev_zero x fun k => (h k).trans (co_ge (Nat.zero_le _))
  | a :: r, b :: t, h => by
    have h0 : a = b := h 0
    have h1 : ev x r = ev x t := ev_ext fun k => h (k + 1)
    show a + x * ev x r = b + x * ev x t
    rw [h0, h1]
theorem ev_quo (x a : Int) (l : List Int) : ev x l = ev a l + (x - a) * ev x (quo a l) := by
  have e : ∀ (m q : List Int) (c : Int), (∀ k, co m k = (if k = 0 then c else 0) + shf (-a) (co q) k) → ev x m = c + (x - a) * ev x q := fun m q c h => by
    have e1 : ∀ k, co m k = co (linL (-a) c q) k := fun k => by
      rw [h, linL_co]
      unfold shf
      cases k with
      | zero => show c + (-a * co q 0 + 0) = -a * co q 0 + c; omega
      | succ k => show 0 + (-a * co q (k + 1) + co q k) = -a * co q (k + 1) + co q k; omega
    have e2 : ev x m = ev x (linL (-a) c q) := ev_ext e1
    rw [e2, linL_ev]
    grind
  exact e l (quo a l) (ev a l) (quo_split a l)
theorem ms_addR (f g h : Nat → Int) (k : Nat) : ∀ n, ms f (fun i => g i + h i) n k = ms f g n k + ms f h n k
  | 0 => rfl
  | n + 1 => by
    show ms f (fun i => g i + h i) n k + f n * (g (k - n) + h (k - n)) = ms f g n k + f n * g (k - n) + (ms f h n k + f n * h (k - n))
    rw [ms_addR f g h k n, Int.mul_add]
    omega
theorem ms_one (f : Nat → Int) (c : Int) (k : Nat) : mulc f (fun i => if i = 0 then c else 0) k = c * f k := by
  show ms f _ k k + f k * (if k - k = 0 then c else 0) = _
  rw [ms_zero k (fun i hi => by rw [if_neg (by omega), Int.mul_zero]), if_pos (Nat.sub_self k), Int.mul_comm, Int.zero_add]
theorem ms_shR (f g : Nat → Int) (c : Int) (k : Nat) : ∀ n, n ≤ k → ms f (shf c g) n k = c * ms f g n k + ms f g n (k - 1)
  | 0, _ => by show (0 : Int) = c * 0 + 0; omega
  | n + 1, h => by
    show ms f (shf c g) n k + f n * shf c g (k - n) = c * (ms f g n k + f n * g (k - n)) + (ms f g n (k - 1) + f n * g (k - 1 - n))
    rw [ms_shR f g c k n (by omega)]
    obtain ⟨m, hm⟩ : ∃ m, k - n = m + 1 := ⟨k - n - 1, by omega⟩
    rw [hm, show k - 1 - n = m by omega]
    show _ + f n * (c * g (m + 1) + g m) = _
    grind
theorem ms_shL (f g : Nat → Int) (c : Int) (k : Nat) : ∀ n, ms (shf c f) g (n + 1) k = c * ms f g (n + 1) k + ms f g n (k - 1)
  | 0 => by
    show 0 + (c * f 0 + 0) * g (k - 0) = c * (0 + f 0 * g (k - 0)) + 0
    grind
  | n + 1 => by
    show ms (shf c f) g (n + 1) k + (c * f (n + 1) + f n) * g (k - (n + 1)) = c * (ms f g (n + 1) k + f (n + 1) * g (k - (n + 1))) + (ms f g n (k - 1) + f n * g (k - 1 - n))
    rw [ms_shL f g c k n, show k - (n + 1) = k - 1 - n by omega]
    grind
theorem mulc_sh (f g : Nat → Int) (c : Int) (k : Nat) : mulc f (shf c g) k = mulc (shf c f) g k := by
  show ms f (shf c g) k k + f k * shf c g (k - k) = _
  rw [ms_shR f g c k k (Nat.le_refl _), Nat.sub_self]
  show _ + f k * (c * g 0 + 0) = mulc (shf c f) g k
  unfold mulc
  rw [ms_shL]
  show _ = c * (ms f g k k + f k * g (k - k)) + _
  rw [Nat.sub_self]
  grind
/-- the sum of the first j of by_falling's integers times the falling products -/
def facSum (l : List Int) : Nat → Nat → Int
  | 0, _ => 0
  | j + 1, k => facSum l j k + byF l j * co (facL (-1) j) k
theorem facSum_all (l : List Int) : ∀ j k, co l k = facSum l j k + mulc (co (facL (-1) j)) (co (rests l j)) k
  | 0, k => by
    show co l k = 0 + mulc (co [1]) (co l) k
    have e : ∀ i, co [1] i = mono 0 1 i := fun i => by
      unfold mono
      cases i with
      | zero => rfl
      | succ i => rw [co_ge (by show 1 ≤ i + 1; omega), if_neg (by omega)]
    rw [show mulc (co [1]) (co l) k = mulc (mono 0 1) (co l) k from ms_congr _ (fun i _ => e i) (fun _ => rfl), mulc_mono, if_pos (Nat.zero_le _), Nat.sub_zero]
    omega
  | j + 1, k => by
    rw [facSum_all l j k]
    show _ = facSum l j k + byF l j * co (facL (-1) j) k + mulc (co (linL (-1 * (j : Int)) 0 (facL (-1) j))) (co (quo (j : Int) (rests l j))) k
    have e1 : mulc (co (facL (-1) j)) (co (rests l j)) k = mulc (co (facL (-1) j)) (fun i => (if i = 0 then byF l j else 0) + shf (-(j : Int)) (co (quo (j : Int) (rests l j))) i) k :=
      ms_congr _ (fun _ _ => rfl) fun i => quo_split (j : Int) (rests l j) i
    have e2 : ∀ i, co (linL (-1 * (j : Int)) 0 (facL (-1) j)) i = shf (-(j : Int)) (co (facL (-1) j)) i := fun i => by
      rw [linL_co]
      unfold shf
      rw [show -1 * (j : Int) = -(j : Int) by omega]
    rw [e1, show mulc (co (facL (-1) j)) (fun i => (if i = 0 then byF l j else 0) + shf (-(j : Int)) (co (quo (j : Int) (rests l j))) i) k = _ from ms_addR _ _ _ k (k + 1)]
    rw [show ms (co (facL (-1) j)) (fun i => if i = 0 then byF l j else 0) (k + 1) k = _ from ms_one _ _ k, show ms (co (facL (-1) j)) (shf (-(j : Int)) (co (quo (j : Int) (rests l j)))) (k + 1) k = _ from mulc_sh _ _ _ k]
    rw [show mulc (co (linL (-1 * (j : Int)) 0 (facL (-1) j))) (co (quo (j : Int) (rests l j))) k = mulc (shf (-(j : Int)) (co (facL (-1) j))) (co (quo (j : Int) (rests l j))) k from ms_congr _ (fun i _ => e2 i) (fun _ => rfl)]
    omega
theorem facSum_end (l : List Int) (k : Nat) : facSum l l.length k = co l k := by
  have h := facSum_all l l.length k
  have e : mulc (co (facL (-1) l.length)) (co (rests l l.length)) k = 0 := ms_zero _ fun i _ => by
    rw [co_ge (l := rests l l.length) (by rw [rests_len]; omega), Int.mul_zero]
  omega
/-- the same of values -/
def evSum (x : Int) (l : List Int) : Nat → Int
  | 0 => 0
  | j + 1 => evSum x l j + byF l j * ev x (facL (-1) j)
theorem evSum_all (x : Int) (l : List Int) : ∀ j, ev x l = evSum x l j + ev x (facL (-1) j) * ev x (rests l j)
  | 0 => by
    show ev x l = 0 + (1 + x * 0) * ev x l
    grind
  | j + 1 => by
    rw [evSum_all x l j]
    have e1 : ev x (facL (-1) (j + 1)) = 0 + (-1 * (j : Int) + x) * ev x (facL (-1) j) := linL_ev ..
    show _ = evSum x l j + byF l j * ev x (facL (-1) j) + ev x (facL (-1) (j + 1)) * ev x (quo (j : Int) (rests l j))
    rw [e1, ev_quo x (j : Int) (rests l j)]
    show _ = _ + ev (j : Int) (rests l j) * _ + _
    grind
theorem evSum_end (x : Int) (l : List Int) : evSum x l l.length = ev x l := by
  rw [evSum_all x l l.length]
  have e : rests l l.length = [] := List.eq_nil_of_length_eq_zero (by rw [rests_len]; omega)
  rw [e]
  show _ = _ + _ * 0
  omega
theorem rcn_facN : ∀ n : Nat, n < 13 → ∀ j : Nat, j < n → rcn (j : Int) (n + 1) (facL (-1) n) = 1 := by decide +kernel
theorem rcn_fac {n : Nat} (hn : n < 13) (x : Int) : rcn x (facL (-1) n).length (facL (-1) n) = if 0 ≤ x ∧ x < n then 1 else 0 := by
  rw [facL_len]
  by_cases c : 0 ≤ x ∧ x < n
  · rw [if_pos c]
    obtain ⟨j, rfl⟩ := Int.eq_ofNat_of_zero_le c.1
    exact rcn_facN n hn j (by omega)
  · rw [if_neg c]
    show (if ev x (facL (-1) n) = 0 then _ else 0) = 0
    rw [if_neg (fun z => c (facL_evz z))]

def spCheckCount (CB : Addr) : Sp := fun vs H Q E => ∃ n : Int, vs = [.int n] ∧ (0 ≤ n ∧ n ≤ 40 → Q .non H) ∧ (¬ (0 ≤ n ∧ n ≤ 40) → E (.ref CB) none H)
def spFac (CB : Addr) (s : Int) : Sp := fun vs H Q E => ∃ n : Int, vs = [.int n] ∧ (¬ (0 ≤ n ∧ n ≤ 40) → E (.ref CB) none H) ∧ (0 ≤ n → n ≤ 40 → ∀ t H', Same H H' → H' t = some (.tup ((facL s n.toNat).map V.int)) → Q (.ref t) H')
def powL (n : Nat) : List Int := List.replicate n 0 ++ [1]
def spPow (CB : Addr) (K : PySem.W.Frag) : Sp := fun vs H Q E => ∃ n : Int, vs = [.int n] ∧ (¬ (0 ≤ n ∧ n ≤ 40) → E (.ref CB) none H) ∧ (0 ≤ n → n ≤ 40 → ∀ t H', Same H H' → SqT K H' t ((powL n.toNat).map V.int) → Q (.ref t) H')
section
variable {P : Program} {w : World} {K : PySem.W.Frag} {mg : Str → Option Value} {base : Heap}
/-! ### _check_count, power_of_d -/
theorem ok_check_count_ {f CB : Addr} {fd : FuncData} {tm : Tok} (F : Fun K "_check_count" "_check_count" s_check_count_ f fd) (T : ErrC K mg "BadNumber" CB) (m_MOST_COUNT : mg "MOST_COUNT" = some (.int 40 tm)) : FnOk P w K mg base (L2.CX P w) 1 f fd ["count"] (spCheckCount CB) := by
  obtain ⟨gc_BadNumber, x_BadNumber, kc_BadNumber, bc_BadNumber, tc_BadNumber⟩ := T
  have r_MOST_COUNT : RelV (.int 40) (.int 40 tm) := ⟨_, rfl⟩
  refine F.okX sc_check_count_ (fun vs H Q E h => ?_) (fun cdv A outer s H vs Q E hr h => ?_)
  · obtain ⟨n, rfl, _⟩ := h
    rfl
  · obtain ⟨n, rfl, q, q1⟩ := h
    refine ⟨_, (pss_one (ps_if (pt_not (pt_chain op_le op_le pe_int (pv 0) (pe_glob rfl m_MOST_COUNT r_MOST_COUNT))) (pss_one (ps_raise rfl (takes_of rfl rfl rfl rfl) (pmk_own PySem.F.excBase_ValueError x_BadNumber gc_BadNumber kc_BadNumber (raises_own bc_BadNumber tc_BadNumber) rfl))) pss_nil)), ?_⟩
    refine ⟨_, rfl, _, _, rfl, rfl, _, rfl, ?_⟩
    by_cases c0 : 0 ≤ n
    · rw [decide_eq_true c0]
      refine iteT ⟨_, _, rfl, rfl, _, rfl, ?_⟩
      by_cases c1 : n ≤ 40
      · rw [decide_eq_true c1]
        exact iteF (q ⟨c0, c1⟩)
      · rw [decide_eq_false c1]
        exact iteT (q1 (fun z => c1 z.2))
    · rw [decide_eq_false c0]
      exact iteF ⟨_, rfl, iteT (q1 (fun z => c0 z.1))⟩
theorem ok_power_of_d {f CB a_check_count_ : Addr} {fd fd_check_count_ : FuncData} (F : Fun K "power_of_d" "power_of_d" s_power_of_d f fd)
    (G_check_count_ : FnOk P w K mg base (L2.CX P w) 1 a_check_count_ fd_check_count_ ["count"] (spCheckCount CB)) (g_check_count_ : mg "_check_count" = some (.ref a_check_count_)) (k_check_count_ : PySem.W.keepIn K (.ref a_check_count_) = true) (b_check_count_ : Binds K fd_check_count_ ["count"] []) :
    FnOk P w K mg base (L2.CX P w) 4 f fd ["count"] (spPow CB K) := by
  refine F.okX sc_power_of_d (fun vs H Q E h => ?_) (fun cdv A outer s H vs Q E hr h => ?_)
  · obtain ⟨n, rfl, _⟩ := h
    rfl
  · obtain ⟨n, rfl, q1, q⟩ := h
    refine ⟨_, (pss_cons (ps_expr (pe_call G_check_count_ (hr.mono (by decide)) rfl g_check_count_ k_check_count_ b_check_count_ .nil (passes_call (takes_of rfl rfl rfl rfl) (fun _ _ _ _ h => h)) (pa_cons (pv 0) pa_nil)))
  (pss_one (ps_ret (pe_op op_catB (pe_op op_repB (pe_tup (pa_cons pe_int pa_nil)) (pv 0)) (pe_tup (pa_cons pe_int pa_nil)))))), ?_⟩
    have szl : 3000 ≤ sizeLine := by decide
    refine ⟨_, rfl, n, rfl, fun c => ?_, q1⟩
    have q := q c.1 c.2
    refine ⟨(by show 1 ≤ sizeLine; decide), fun t0 nt0 => ?_⟩
    refine ⟨_, rfl, t0, n, [.int 0], rfl, rfl, .inl (.inl upd_same), List.cons_ne_nil _ _, c.1, by omega, by decide, fun t1 H1 s1 ht1 => ?_⟩
    rw [rep0] at ht1
    refine ⟨(by show 1 ≤ sizeLine; decide), fun t2 nt2 => ?_⟩
    refine ⟨t1, t2, _, [.int 1], rfl, rfl, sqT_same (same_upd nt2) ht1, .inl (.inl upd_same), by rw [List.length_map, List.length_replicate]; show _ + 1 ≤ _; omega, fun t3 H3 s3 ht3 => ?_⟩
    refine q t3 H3 (Same.trans (Same.trans (same_upd nt0) s1) (Same.trans (same_upd nt2) s3)) ?_
    unfold powL
    rw [List.map_append]
    exact ht3
end

section
variable {P : Program} {w : World} {K : PySem.W.Frag} {mg : Str → Option Value} {base : Heap}
/-! ### falling -/
theorem ok_falling {f CB CP CT a_check_count_ a_multiplied_polys : Addr} {fd fd_check_count_ fd_multiplied_polys : FuncData} (F : Fun K "falling" "falling" s_falling f fd) (z_range : mg "range" = none)
    (G_check_count_ : FnOk P w K mg base (L2.CX P w) 1 a_check_count_ fd_check_count_ ["count"] (spCheckCount CB)) (g_check_count_ : mg "_check_count" = some (.ref a_check_count_)) (k_check_count_ : PySem.W.keepIn K (.ref a_check_count_) = true) (b_check_count_ : Binds K fd_check_count_ ["count"] [])
    (G_multiplied_polys : FnOk P w K mg base (L2.CX P w) 3 a_multiplied_polys fd_multiplied_polys ["one", "other"] (spMul K CP CT)) (g_multiplied_polys : mg "multiplied_polys" = some (.ref a_multiplied_polys)) (k_multiplied_polys : PySem.W.keepIn K (.ref a_multiplied_polys) = true) (b_multiplied_polys : Binds K fd_multiplied_polys ["one", "other"] []) :
    FnOk P w K mg base (L2.CX P w) 4 f fd ["count"] (spFac CB (-1)) := by
  refine F.okX sc_falling (fun vs H Q E h => ?_) (fun cdv A outer s H vs Q E hr h => ?_)
  · obtain ⟨n, rfl, _⟩ := h
    rfl
  · obtain ⟨n, rfl, q1, q⟩ := h
    refine ⟨_, (pss_cons (ps_expr (pe_call G_check_count_ (hr.mono (by decide)) rfl g_check_count_ k_check_count_ b_check_count_ .nil (passes_call (takes_of rfl rfl rfl rfl) (fun _ _ _ _ h => h)) (pa_cons (pv 0) pa_nil)))
  (pss_cons (ps_set (i := 1) sc_falling.nd rfl (.inl rfl) (pe_tup (pa_cons pe_int pa_nil)))
  (pss_cons (ps_for (passes_of rfl) rfl (pi_range1 rfl z_range (pa_cons (pv 0) pa_nil)) (pg_name (i := 2) sc_falling.nd rfl (.inl rfl)) (pss_one (ps_set (i := 1) sc_falling.nd rfl (.inl rfl) (pe_call G_multiplied_polys (hr.mono (by decide)) rfl g_multiplied_polys k_multiplied_polys b_multiplied_polys .nil (passes_call (takes_of rfl rfl rfl rfl) (fun _ _ _ _ h => h)) (pa_cons (pv 1) (pa_cons (pe_tup (pa_cons (pe_un un_neg (pv 2)) (pa_cons pe_int pa_nil))) pa_nil))))))
  (pss_one (ps_ret (pv 1)))))), ?_⟩
    refine ⟨_, rfl, n, rfl, fun c => ?_, q1⟩
    have q := q c.1 c.2
    obtain ⟨N, rfl⟩ := Int.eq_ofNat_of_zero_le c.1
    refine ⟨(by show 1 ≤ sizeLine; decide), fun t0 nt0 => ?_⟩
    refine ⟨_, rfl, _, rfl, by omega, by omega, for_range (lo := 0) (n := N) (fun i σ H' => ∃ (t : Addr) (v2 : Option V), σ = [some (.int (N : Int)), some (.ref t), v2] ∧ Same H H' ∧ H' t = some (.tup ((facL (-1) i).map V.int)))
      ⟨t0, none, rfl, same_upd nt0, upd_same⟩ (fun i σ H2 hi hP => ?_) (fun σ H' hP => ?_)⟩
    · obtain ⟨t, v2, rfl, s2, ht⟩ := hP
      refine ⟨_, rfl, _, rfl, _, rfl, (by show 2 ≤ sizeLine; decide), fun p np => ?_⟩
      have lf := facL_len (-1) i
      have em : -(0 + (i : Int)) = (-1) * (i : Int) := by omega
      have pm : Pol [-(0 + (i : Int)), 1] := .inr (by show (1 : Int) ≠ 0; decide)
      have e1 : isP (facL (-1) i) = true := pol_isP (facL_pol _ _) (by omega)
      have e2 : isP [-(0 + (i : Int)), 1] = true := pol_isP pm (by show 2 ≤ 200; decide)
      have pl : prodLen (facL (-1) i) [-(0 + (i : Int)), 1] ≤ 200 := by
        unfold prodLen
        split
        · omega
        · show _ + 2 - 1 ≤ 200
          omega
      have s3 := same_upd (o := .tup [.int (-(0 + (i : Int))), .int 1]) np
      refine ⟨t, p, facL (-1) i, [-(0 + (i : Int)), 1], rfl, .inl (.inl (s3 _ _ ht)), .inl (.inl upd_same), fun z => (by rw [e1] at z; exact nomatch z), fun _ z => (by rw [e2] at z; exact nomatch z), fun _ _ => ⟨fun z => absurd pl (by omega), fun _ => ⟨fun x _ y hy => ?_, fun t2 zs H' s' ht2 pz cz lz => ?_⟩⟩⟩
      · rcases List.mem_cons.mp hy with rfl | hy
        · exact .inr ⟨by omega, by omega⟩
        · rw [List.mem_singleton.mp hy]
          exact .inr ⟨by decide, by decide⟩
      · have ez : zs = facL (-1) (i + 1) := pol_ext pz (facL_pol _ _) fun k => by
          rw [cz, em, conv_lin]
          rfl
        rw [ez] at ht2
        exact ⟨t2, _, rfl, Same.trans s2 (Same.trans s3 s'), ht2⟩
    · obtain ⟨t, v2, rfl, s2, ht⟩ := hP
      exact ⟨_, rfl, q t H' s2 ht⟩
end

section
variable {P : Program} {w : World} {K : PySem.W.Frag} {mg : Str → Option Value} {base : Heap}
/-! ### rising -/
theorem ok_rising {f CB CP CT a_check_count_ a_multiplied_polys : Addr} {fd fd_check_count_ fd_multiplied_polys : FuncData} (F : Fun K "rising" "rising" s_rising f fd) (z_range : mg "range" = none)
    (G_check_count_ : FnOk P w K mg base (L2.CX P w) 1 a_check_count_ fd_check_count_ ["count"] (spCheckCount CB)) (g_check_count_ : mg "_check_count" = some (.ref a_check_count_)) (k_check_count_ : PySem.W.keepIn K (.ref a_check_count_) = true) (b_check_count_ : Binds K fd_check_count_ ["count"] [])
    (G_multiplied_polys : FnOk P w K mg base (L2.CX P w) 3 a_multiplied_polys fd_multiplied_polys ["one", "other"] (spMul K CP CT)) (g_multiplied_polys : mg "multiplied_polys" = some (.ref a_multiplied_polys)) (k_multiplied_polys : PySem.W.keepIn K (.ref a_multiplied_polys) = true) (b_multiplied_polys : Binds K fd_multiplied_polys ["one", "other"] []) :
    FnOk P w K mg base (L2.CX P w) 4 f fd ["count"] (spFac CB (1)) := by
  refine F.okX sc_rising (fun vs H Q E h => ?_) (fun cdv A outer s H vs Q E hr h => ?_)
  · obtain ⟨n, rfl, _⟩ := h
    rfl
  · obtain ⟨n, rfl, q1, q⟩ := h
    refine ⟨_, (pss_cons (ps_expr (pe_call G_check_count_ (hr.mono (by decide)) rfl g_check_count_ k_check_count_ b_check_count_ .nil (passes_call (takes_of rfl rfl rfl rfl) (fun _ _ _ _ h => h)) (pa_cons (pv 0) pa_nil)))
  (pss_cons (ps_set (i := 1) sc_rising.nd rfl (.inl rfl) (pe_tup (pa_cons pe_int pa_nil)))
  (pss_cons (ps_for (passes_of rfl) rfl (pi_range1 rfl z_range (pa_cons (pv 0) pa_nil)) (pg_name (i := 2) sc_rising.nd rfl (.inl rfl)) (pss_one (ps_set (i := 1) sc_rising.nd rfl (.inl rfl) (pe_call G_multiplied_polys (hr.mono (by decide)) rfl g_multiplied_polys k_multiplied_polys b_multiplied_polys .nil (passes_call (takes_of rfl rfl rfl rfl) (fun _ _ _ _ h => h)) (pa_cons (pv 1) (pa_cons (pe_tup (pa_cons (pv 2) (pa_cons pe_int pa_nil))) pa_nil))))))
  (pss_one (ps_ret (pv 1)))))), ?_⟩
    refine ⟨_, rfl, n, rfl, fun c => ?_, q1⟩
    have q := q c.1 c.2
    obtain ⟨N, rfl⟩ := Int.eq_ofNat_of_zero_le c.1
    refine ⟨(by show 1 ≤ sizeLine; decide), fun t0 nt0 => ?_⟩
    refine ⟨_, rfl, _, rfl, by omega, by omega, for_range (lo := 0) (n := N) (fun i σ H' => ∃ (t : Addr) (v2 : Option V), σ = [some (.int (N : Int)), some (.ref t), v2] ∧ Same H H' ∧ H' t = some (.tup ((facL (1) i).map V.int)))
      ⟨t0, none, rfl, same_upd nt0, upd_same⟩ (fun i σ H2 hi hP => ?_) (fun σ H' hP => ?_)⟩
    · obtain ⟨t, v2, rfl, s2, ht⟩ := hP
      refine ⟨_, rfl, _, rfl, (by show 2 ≤ sizeLine; decide), fun p np => ?_⟩
      have lf := facL_len (1) i
      have em : 0 + (i : Int) = (1) * (i : Int) := by omega
      have pm : Pol [0 + (i : Int), 1] := .inr (by show (1 : Int) ≠ 0; decide)
      have e1 : isP (facL (1) i) = true := pol_isP (facL_pol _ _) (by omega)
      have e2 : isP [0 + (i : Int), 1] = true := pol_isP pm (by show 2 ≤ 200; decide)
      have pl : prodLen (facL (1) i) [0 + (i : Int), 1] ≤ 200 := by
        unfold prodLen
        split
        · omega
        · show _ + 2 - 1 ≤ 200
          omega
      have s3 := same_upd (o := .tup [.int (0 + (i : Int)), .int 1]) np
      refine ⟨t, p, facL (1) i, [0 + (i : Int), 1], rfl, .inl (.inl (s3 _ _ ht)), .inl (.inl upd_same), fun z => (by rw [e1] at z; exact nomatch z), fun _ z => (by rw [e2] at z; exact nomatch z), fun _ _ => ⟨fun z => absurd pl (by omega), fun _ => ⟨fun x _ y hy => ?_, fun t2 zs H' s' ht2 pz cz lz => ?_⟩⟩⟩
      · rcases List.mem_cons.mp hy with rfl | hy
        · exact .inr ⟨by omega, by omega⟩
        · rw [List.mem_singleton.mp hy]
          exact .inr ⟨by decide, by decide⟩
      · have ez : zs = facL (1) (i + 1) := pol_ext pz (facL_pol _ _) fun k => by
          rw [cz, em, conv_lin]
          rfl
        rw [ez] at ht2
        exact ⟨t2, _, rfl, Same.trans s2 (Same.trans s3 s'), ht2⟩
    · obtain ⟨t, v2, rfl, s2, ht⟩ := hP
      exact ⟨_, rfl, q t H' s2 ht⟩
end

def byFL (l : List Int) : List Int := (List.range l.length).map (byF l)
def spByF (K : PySem.W.Frag) (CP : Addr) : Sp := fun vs H Q E => ∃ (a : Addr) (l : List Int), vs = [.ref a] ∧ SqT K H a (l.map V.int) ∧ (isP l = false → E (.ref CP) none H) ∧ (isP l = true → ∀ D H', Same H H' → H D = none → H' D = some (.lst ((byFL l).map V.int)) → Q (.ref D) H')
section
variable {P : Program} {w : World} {K : PySem.W.Frag} {mg : Str → Option Value} {base : Heap}
/-! ### by_falling -/
theorem ok_by_falling {f CP a_check_poly a_split_off_ : Addr} {fd fd_check_poly fd_split_off_ : FuncData} (F : Fun K "by_falling" "by_falling" s_by_falling f fd) (z_len : mg "len" = none) (z_range : mg "range" = none) (z_list : mg "list" = none)
    (G_check_poly : FnOk P w K mg base (L2.CX P w) 2 a_check_poly fd_check_poly ["poly"] (spCheckPoly K CP)) (g_check_poly : mg "check_poly" = some (.ref a_check_poly)) (k_check_poly : PySem.W.keepIn K (.ref a_check_poly) = true) (b_check_poly : Binds K fd_check_poly ["poly"] [])
    (G_split_off_ : FnOk P w K mg base CX0 1 a_split_off_ fd_split_off_ ["parts", "x"] (spSplit K)) (g_split_off_ : mg "_split_off" = some (.ref a_split_off_)) (k_split_off_ : PySem.W.keepIn K (.ref a_split_off_) = true) (b_split_off_ : Binds K fd_split_off_ ["parts", "x"] []) :
    FnOk P w K mg base (L2.CX P w) 3 f fd ["poly"] (spByF K CP) := by
  refine F.okX sc_by_falling (fun vs H Q E h => ?_) (fun cdv A outer s H vs Q E hr h => ?_)
  · obtain ⟨a, l, rfl, _⟩ := h
    rfl
  · obtain ⟨a, l, rfl, ha, q1, q⟩ := h
    refine ⟨_, (pss_cons (ps_expr (pe_call G_check_poly (hr.mono (by decide)) rfl g_check_poly k_check_poly b_check_poly .nil (passes_call (takes_of rfl rfl rfl rfl) (fun _ _ _ _ h => h)) (pa_cons (pv 0) pa_nil)))
  (pss_cons (ps_set (i := 1) sc_by_falling.nd rfl (.inl rfl) (pe_lst pa_nil))
  (pss_cons (ps_set (i := 2) sc_by_falling.nd rfl (.inl rfl) (pe_callTy call_list_of (by rfl) z_list boot_list (pa_cons (pv 0) pa_nil)))
  (pss_cons (ps_for (passes_of rfl) rfl (pi_range1 rfl z_range (pa_cons (pe_callB call_len_seq (by rfl) z_len boot_len (pa_cons (pv 0) pa_nil)) pa_nil)) (pg_name (i := 3) sc_by_falling.nd rfl (.inl rfl)) (pss_cons (ps_asg (pe_call G_split_off_ (hr.mono (by decide)) rfl g_split_off_ k_split_off_ b_split_off_ .nil pass0 (pa_cons (pv 2) (pa_cons (pv 3) pa_nil))) (pg_tup rfl (pgs_cons (pg_name (i := 2) sc_by_falling.nd rfl (.inl rfl)) (pgs_cons (pg_name (i := 4) sc_by_falling.nd rfl (.inl rfl)) pgs_nil))))
  (pss_one (ps_expr (pe_bm PySem.F.plainAttrs_list PySem.F.slot_list_append PySem.F.type_list_append mt_append (pv 1) (pa_cons (pv 4) pa_nil))))))
  (pss_one (ps_ret (pv 1))))))), ?_⟩
    have szl : 3000 ≤ sizeLine := by decide
    refine ⟨_, rfl, a, l, rfl, ha, fun e1 => ?_, q1⟩
    obtain ⟨p1, h1⟩ := isP_pol e1
    have q := q e1
    refine ⟨(by show 0 ≤ sizeLine; decide), fun D nD => ?_⟩
    refine ⟨_, rfl, a, _, rfl, .inr (sqT_same (same_upd nD) ha), fun u0 nu0 => ?_⟩
    have s1 : Same H (upd (upd H D (.lst [])) u0 (.lst (l.map V.int))) := Same.trans (same_upd nD) (same_upd nu0)
    have hu0 : upd (upd H D (.lst [])) u0 (.lst (l.map V.int)) u0 = some (.lst (l.map V.int)) := upd_same
    have hD0 : upd (upd H D (.lst [])) u0 (.lst (l.map V.int)) D = some (.lst []) := same_upd nu0 _ _ upd_same
    have hne : u0 ≠ D := fun z => by
      rw [z, upd_same] at nu0
      exact nomatch nu0
    revert s1 hu0 hD0
    generalize upd (upd H D (.lst [])) u0 (.lst (l.map V.int)) = H1
    intro s1 hu0 hD0
    refine ⟨_, rfl, a, _, rfl, .inr (sqT_same s1 ha), ?_⟩
    rw [List.length_map]
    refine ⟨_, rfl, by omega, by omega, for_range (lo := 0) (n := l.length) (fun i σ H' => ∃ (u : Addr) (v3 v4 : Option V), σ = [some (.ref a), some (.ref D), some (.ref u), v3, v4] ∧ Same H H' ∧ H' D = some (.lst (((List.range i).map (byF l)).map V.int)) ∧ H' u = some (.lst ((rests l i).map V.int)) ∧ u ≠ D)
      ⟨u0, none, none, rfl, s1, hD0, hu0, hne⟩ (fun i σ H2 hi hP => ?_) (fun σ H' hP => ?_)⟩
    · obtain ⟨u, v3, v4, rfl, s2, hD2, hu2, nu⟩ := hP
      have lr := rests_len l i
      refine ⟨_, rfl, _, rfl, u, _, rests l i, rfl, .inl (.inl (.inl hu2)), by omega, by omega, fun t u' H3 s3 nt nu' ht hu' => ?_⟩
      refine ⟨t, _, rfl, .inl (.inl ht), rfl, _, _, rfl, _, _, rfl, rfl, ?_⟩
      have hD3 := s3 _ _ hD2
      refine ⟨_, rfl, .inl ⟨rfl, _, .inl (.inl hD3)⟩, _, rfl, D, _, _, rfl, rfl, hD3, by rw [List.length_map, List.length_map, List.length_range]; omega, ?_⟩
      have nuD : u' ≠ D := fun z => by
        rw [z, hD2] at nu'
        exact nomatch nu'
      have ei : (0 : Int) + (i : Int) = (i : Int) := Int.zero_add _
      refine ⟨u', _, _, rfl, Same.mut (Same.trans s2 s3) nD, ?_, by rw [upd_ne nuD, hu', ei]; rfl, nuD⟩
      rw [upd_same, List.range_succ, List.map_append, List.map_append, ei]
      rfl
    · obtain ⟨u, v3, v4, rfl, s2, hD2, _⟩ := hP
      exact ⟨_, rfl, q D H' s2 nD hD2⟩
end

section
variable {P : Program} {w : World} {K : PySem.W.Frag} {mg : Str → Option Value} {base : Heap}
/-! ### _law_refuses -/
def spRefuses : Sp := fun vs H Q _ => ∃ way n : Int, vs = [.int way, .int n] ∧ 0 ≤ way ∧ way < 3 ∧ ¬ (0 ≤ n ∧ n ≤ 40) ∧ ∀ H', Same H H' → Q (.bl true) H'
theorem ok_law_refuses {f CB a_falling a_rising a_power_of_d : Addr} {fd fd_falling fd_rising fd_power_of_d : FuncData} (F : Fun K "_law_refuses" "_law_refuses" s_law_refuses f fd)
    (gc_BadNumber : mg "BadNumber" = some (.ref CB)) (eB : PySem.W.exmOne K (.ref CB) (.ref CB) = some true)
    (G_falling : FnOk P w K mg base (L2.CX P w) 4 a_falling fd_falling ["count"] (spFac CB (-1))) (g_falling : mg "falling" = some (.ref a_falling)) (k_falling : PySem.W.keepIn K (.ref a_falling) = true) (b_falling : Binds K fd_falling ["count"] [])
    (G_rising : FnOk P w K mg base (L2.CX P w) 4 a_rising fd_rising ["count"] (spFac CB 1)) (g_rising : mg "rising" = some (.ref a_rising)) (k_rising : PySem.W.keepIn K (.ref a_rising) = true) (b_rising : Binds K fd_rising ["count"] [])
    (G_power_of_d : FnOk P w K mg base (L2.CX P w) 4 a_power_of_d fd_power_of_d ["count"] (spPow CB K)) (g_power_of_d : mg "power_of_d" = some (.ref a_power_of_d)) (k_power_of_d : PySem.W.keepIn K (.ref a_power_of_d) = true) (b_power_of_d : Binds K fd_power_of_d ["count"] []) :
    FnOk P w K mg base CX0 5 f fd ["way", "count"] spRefuses := by
  have r_falling : RelV (.ref a_falling) (.ref a_falling) := rfl
  have r_rising : RelV (.ref a_rising) (.ref a_rising) := rfl
  have r_power_of_d : RelV (.ref a_power_of_d) (.ref a_power_of_d) := rfl
  let S3 : Addr → Option Sp := fun g => if g = a_falling then some (spFac CB (-1)) else if g = a_rising then some (spFac CB 1) else if g = a_power_of_d then some (spPow CB K) else none
  have A3 : ∀ g sp, S3 g = some sp → HeldX P w K mg base (L2.CX P w) 4 g sp := fun g sp h => by
    by_cases c1 : g = a_falling
    · subst c1
      obtain rfl := Option.some.inj ((if_pos rfl).symm.trans h)
      exact ⟨_, _, G_falling, k_falling, b_falling⟩
    · replace h := (if_neg c1).symm.trans h
      by_cases c2 : g = a_rising
      · subst c2
        obtain rfl := Option.some.inj ((if_pos rfl).symm.trans h)
        exact ⟨_, _, G_rising, k_rising, b_rising⟩
      · replace h := (if_neg c2).symm.trans h
        by_cases c3 : g = a_power_of_d
        · subst c3
          obtain rfl := Option.some.inj ((if_pos rfl).symm.trans h)
          exact ⟨_, _, G_power_of_d, k_power_of_d, b_power_of_d⟩
        · exact nomatch (if_neg c3).symm.trans h
  have all3 : ∀ g, g = a_falling ∨ g = a_rising ∨ g = a_power_of_d → ∃ sp, S3 g = some sp ∧ ∀ (n : Int) (H : Hp) (Q : VK) (E : XK), ¬ (0 ≤ n ∧ n ≤ 40) → E (.ref CB) none H → sp [.int n] H Q E := fun g h => by
    by_cases c1 : g = a_falling
    · exact ⟨_, if_pos c1, fun n H Q E hn e => ⟨n, rfl, fun _ => e, fun z1 z2 => absurd ⟨z1, z2⟩ hn⟩⟩
    · by_cases c2 : g = a_rising
      · exact ⟨_, (if_neg c1).trans (if_pos c2), fun n H Q E hn e => ⟨n, rfl, fun _ => e, fun z1 z2 => absurd ⟨z1, z2⟩ hn⟩⟩
      · have c3 : g = a_power_of_d := (h.resolve_left c1).resolve_left c2
        exact ⟨_, (if_neg c1).trans ((if_neg c2).trans (if_pos c3)), fun n H Q E hn e => ⟨n, rfl, fun _ => e, fun z1 z2 => absurd ⟨z1, z2⟩ hn⟩⟩
  refine F.ok sc_law_refuses (fun vs H Q E h => ?_) (fun cdv A outer s H vs Q E hr1 h => ?_)
  · obtain ⟨way, n, rfl, _⟩ := h
    rfl
  · obtain ⟨way, n, rfl, w0, w1, hn, q⟩ := h
    refine ⟨_, (pss_cons (ps_try_only (Wout := fun _ _ _ _ => False) rfl rfl ⟨rfl, by decide, .inl gc_BadNumber⟩ takes0 (fun W pn xe tk _ => by exact (pss_one (ps_expr (pe_callE (S := S3) (pe_ix (ix_listK (K := K) rfl) (pe_lst (pa_cons (pe_glob rfl g_falling r_falling) (pa_cons (pe_glob rfl g_rising r_rising) (pa_cons (pe_glob rfl g_power_of_d r_power_of_d) pa_nil)))) (pv 0) (fun _ _ => rfl)) A3 (hr1.mono (by decide)) (fun σ => passAt tk σ) (pa_cons (pv 1) pa_nil))))) (fun ax oe cls dx pn hz hf => by exact (pss_one (ps_ret pe_bl))))
  (pss_one (ps_ret pe_bl))), ?_⟩
    refine ⟨(by show 3 ≤ sizeLine; decide), fun g ng => ?_⟩
    have hg : upd H g (.lst [.ref a_falling, .ref a_rising, .ref a_power_of_d]) g = some (.lst [.ref a_falling, .ref a_rising, .ref a_power_of_d]) := upd_same
    obtain ⟨fa, hfa, hS⟩ : ∃ fa, atI [V.ref a_falling, .ref a_rising, .ref a_power_of_d] way = some (.ref fa) ∧ (fa = a_falling ∨ fa = a_rising ∨ fa = a_power_of_d) := by
      rcases (show way = 0 ∨ way = 1 ∨ way = 2 by omega) with rfl | rfl | rfl
      · exact ⟨_, atI_nat (j := 0) rfl, .inl rfl⟩
      · exact ⟨_, atI_nat (j := 1) rfl, .inr (.inl rfl)⟩
      · exact ⟨_, atI_nat (j := 2) rfl, .inr (.inr rfl)⟩
    obtain ⟨sp, eS, hsp⟩ := all3 fa hS
    refine ⟨_, rfl, g, _, _, _, rfl, rfl, .inl (.inl hg), hfa, fa, sp, rfl, eS, _, rfl, hsp n _ _ _ hn ?_⟩
    exact ⟨true, eB, fun _ _ _ => q _ (same_upd ng), fun z => nomatch z⟩
end

theorem call_isiK {X : Cx} {K : PySem.W.Frag} (hK : X.K = K) : CallR X (.builtin "isinstance") (rIsi K) := by
  subst hK
  exact call_isi
theorem powL_len (n : Nat) : (powL n).length = n + 1 := by
  unfold powL
  rw [List.length_append, List.length_replicate]
  rfl
theorem co_snoc (l : List Int) (c : Int) (k : Nat) : co (l ++ [c]) k = if k = l.length then c else co l k := by
  unfold co
  rw [List.getD_eq_getElem?_getD, List.getD_eq_getElem?_getD]
  by_cases h : k < l.length
  · rw [List.getElem?_append_left h, if_neg (by omega)]
  · rw [List.getElem?_append_right (by omega)]
    by_cases h2 : k = l.length
    · rw [if_pos h2, h2, Nat.sub_self]
      rfl
    · rw [if_neg h2, List.getElem?_eq_none (by show 1 ≤ _; omega), List.getElem?_eq_none (by omega)]
theorem powL_co (n k : Nat) : co (powL n) k = if k = n then 1 else 0 := by
  unfold powL
  rw [co_snoc, List.length_replicate, co_zeros]
theorem powL_pol (n : Nat) : Pol (powL n) := .inr (by rw [powL_len, Nat.add_sub_cancel, powL_co, if_pos rfl]; decide)
theorem powL_next (n k : Nat) : co (powL (n + 1)) k = co (linL 0 0 (powL n)) k := by
  rw [linL_co, powL_co]
  cases k with
  | zero => rw [if_neg (by omega)]; show 0 = 0 * _ + (0 : Int); omega
  | succ k =>
    show _ = 0 * _ + co (powL n) k
    rw [Int.zero_mul, Int.zero_add, powL_co n k]
    by_cases c : k = n
    · rw [if_pos c, if_pos (by omega)]
    · rw [if_neg c, if_neg (by omega)]
theorem rootsD_none {l : List Int} {lo : Int} : ∀ {n : Nat}, (∀ x, lo ≤ x → x < lo + n → rcn x l.length l = 0) → rootsD l lo n = []
  | 0, _ => rfl
  | n + 1, h => by
    show rootsD l lo n ++ rtD l (lo + (n : Int)) = []
    rw [rootsD_none (fun x h1 h2 => h x h1 (by omega))]
    unfold rtD
    rw [h _ (by omega) (by omega), if_neg (Nat.lt_irrefl 0)]
    rfl
theorem byFL_len (l : List Int) : (byFL l).length = l.length := by
  unfold byFL
  rw [List.length_map, List.length_range]
theorem byFL_co {l : List Int} {i : Nat} (h : i < l.length) : co (byFL l) i = byF l i := by
  unfold co byFL
  rw [List.getD_eq_getElem?_getD, List.getElem?_map, List.getElem?_range h]
  rfl
theorem neD_sq {K : PySem.W.Frag} {H : Hp} {a b : Addr} {x y : List Int} {Q : VK} (hx : SqT K H a (x.map V.int)) (hy : SqT K H b (y.map V.int)) (q : Q (.bl (!decide (x = y))) H) : rNeD K (.ref a) (.ref b) H Q :=
  ⟨_, _, .tup hx (ints_dp x), .tup hy (ints_dp y), dT_shaped x, dT_shaped y, by rw [show PyData.tuple (x.map PyData.int) = dT x from rfl, show PyData.tuple (y.map PyData.int) = dT y from rfl, eqv_dT]; exact q⟩
theorem all_rep : ∀ n : Nat, (List.replicate n true).all id = true
  | 0 => rfl
  | n + 1 => by rw [List.replicate_succ, List.all_cons, all_rep n]; rfl
theorem rep_snoc (n : Nat) : (List.replicate n true).map V.bl ++ [V.bl true] = (List.replicate (n + 1) true).map V.bl := by
  rw [List.replicate_succ', List.map_append]
  rfl
def onesD (n : Nat) : List PyData := (List.range n).map fun (j : Nat) => .tuple [.int (j : Int), .int 1]
theorem rootsD_ones {l : List Int} {n : Nat} : ∀ {m : Nat}, m ≤ n → (∀ j : Nat, j < n → rcn (j : Int) l.length l = 1) → rootsD l 0 m = onesD m
  | 0, _, _ => rfl
  | m + 1, hm, h => by
    show rootsD l 0 m ++ rtD l (0 + (m : Int)) = onesD (m + 1)
    rw [rootsD_ones (by omega) h]
    unfold rtD onesD
    rw [Int.zero_add, h m (by omega), if_pos (by decide), List.range_succ, List.map_append]
    rfl
theorem rootsD_add {l : List Int} {lo : Int} (a : Nat) : ∀ b : Nat, rootsD l lo (a + b) = rootsD l lo a ++ rootsD l (lo + a) b
  | 0 => (List.append_nil _).symm
  | b + 1 => by
    show rootsD l lo (a + b) ++ rtD l (lo + ((a + b : Nat) : Int)) = rootsD l lo a ++ (rootsD l (lo + a) b ++ rtD l (lo + a + (b : Int)))
    rw [rootsD_add a b, List.append_assoc, show lo + ((a + b : Nat) : Int) = lo + a + (b : Int) by omega]
theorem rootsD_fac {n : Nat} (hn : n < 13) : rootsD (facL (-1) n) (-1000) ((1000 : Int) + 1 - -1000).toNat = onesD n := by
  rw [show ((1000 : Int) + 1 - -1000).toNat = 1000 + (n + (1001 - n)) by omega, rootsD_add, rootsD_add, rootsD_none (fun x h1 h2 => by rw [rcn_fac hn, if_neg (by omega)]),
    show (-1000 : Int) + ((1000 : Nat) : Int) = 0 from rfl, rootsD_ones (n := n) (Nat.le_refl _) (fun j hj => by rw [rcn_fac hn, if_pos (by omega)]), rootsD_none (fun x h1 h2 => by rw [rcn_fac hn, if_neg (by omega)]), List.append_nil]
  rfl
section
variable {P : Program} {w : World} {K : PySem.W.Frag} {mg : Str → Option Value} {base : Heap}
def spLaw (K : PySem.W.Frag) : Sp := fun vs H Q _ => ∃ (a : Addr) (ns : List Int), vs = [.ref a] ∧ SqL K H a (ns.map V.int) ∧ ns.length ≤ 63 ∧ ∀ H', Q (.bl true) H'
theorem ok_law {f CP CB CN a_law_draws a_law_next a_law_poly a_law_cut a_law_times a_law_plus a_law_value a_law_refuses a_roots a_falling a_rising a_power_of_d a_by_falling a_value_at : Addr} {fd fd_law_draws fd_law_next fd_law_poly fd_law_cut fd_law_times fd_law_plus fd_law_value fd_law_refuses fd_roots fd_falling fd_rising fd_power_of_d fd_by_falling fd_value_at : FuncData} {ur : Tok} (F : Fun K "law" "law" s_law f fd)
    (z_repr : mg "repr" = none) (z_int : mg "int" = none) (z_range : mg "range" = none) (z_len : mg "len" = none) (z_list : mg "list" = none) (z_tuple : mg "tuple" = none) (z_all : mg "all" = none) (z_isinstance : mg "isinstance" = none)
    (G_law_draws : FnOk P w K mg base CX0 2 a_law_draws fd_law_draws ["script"] (spDraws K)) (g_law_draws : mg "_law_draws" = some (.ref a_law_draws)) (k_law_draws : PySem.W.keepIn K (.ref a_law_draws) = true) (b_law_draws : Binds K fd_law_draws ["script"] [])
    (G_law_next : FnOk P w K mg base CX0 1 a_law_next fd_law_next ["draws"] spNext) (g_law_next : mg "_law_next" = some (.ref a_law_next)) (k_law_next : PySem.W.keepIn K (.ref a_law_next) = true) (b_law_next : Binds K fd_law_next ["draws"] [])
    (G_law_poly : FnOk P w K mg base CX0 2 a_law_poly fd_law_poly ["draws", "most"] (spLawPoly K)) (g_law_poly : mg "_law_poly" = some (.ref a_law_poly)) (k_law_poly : PySem.W.keepIn K (.ref a_law_poly) = true) (b_law_poly : Binds K fd_law_poly ["draws", "most"] [])
    (G_law_cutT : FnOk P w K mg base CX0 1 a_law_cut fd_law_cut ["parts"] (spCutT K)) (g_law_cut : mg "_law_cut" = some (.ref a_law_cut)) (k_law_cut : PySem.W.keepIn K (.ref a_law_cut) = true) (b_law_cut : Binds K fd_law_cut ["parts"] [])
    (G_law_times : FnOk P w K mg base CX0 2 a_law_times fd_law_times ["one", "other"] (spLawTimes K)) (g_law_times : mg "_law_times" = some (.ref a_law_times)) (k_law_times : PySem.W.keepIn K (.ref a_law_times) = true) (b_law_times : Binds K fd_law_times ["one", "other"] [])
    (G_law_plus : FnOk P w K mg base CX0 2 a_law_plus fd_law_plus ["one", "other"] (spLawPlus K)) (g_law_plus : mg "_law_plus" = some (.ref a_law_plus)) (k_law_plus : PySem.W.keepIn K (.ref a_law_plus) = true) (b_law_plus : Binds K fd_law_plus ["one", "other"] [])
    (G_law_value : FnOk P w K mg base CX0 1 a_law_value fd_law_value ["poly", "x"] (spLawValue K)) (g_law_value : mg "_law_value" = some (.ref a_law_value)) (k_law_value : PySem.W.keepIn K (.ref a_law_value) = true) (b_law_value : Binds K fd_law_value ["poly", "x"] [])
    (G_law_refuses : FnOk P w K mg base CX0 5 a_law_refuses fd_law_refuses ["way", "count"] spRefuses) (g_law_refuses : mg "_law_refuses" = some (.ref a_law_refuses)) (k_law_refuses : PySem.W.keepIn K (.ref a_law_refuses) = true) (b_law_refuses : Binds K fd_law_refuses ["way", "count"] [])
    (G_roots : FnOk P w K mg base (L2.CX P w) 3 a_roots fd_roots ["poly", "most"] (spRoots K CP CB CN)) (g_roots : mg "roots" = some (.ref a_roots)) (k_roots : PySem.W.keepIn K (.ref a_roots) = true) (b_roots1 : Binds K fd_roots ["poly", "most"] [Value.int 1000 ur])
    (G_falling : FnOk P w K mg base (L2.CX P w) 4 a_falling fd_falling ["count"] (spFac CB (-1))) (g_falling : mg "falling" = some (.ref a_falling)) (k_falling : PySem.W.keepIn K (.ref a_falling) = true) (b_falling : Binds K fd_falling ["count"] [])
    (G_rising : FnOk P w K mg base (L2.CX P w) 4 a_rising fd_rising ["count"] (spFac CB 1)) (g_rising : mg "rising" = some (.ref a_rising)) (k_rising : PySem.W.keepIn K (.ref a_rising) = true) (b_rising : Binds K fd_rising ["count"] [])
    (G_power_of_d : FnOk P w K mg base (L2.CX P w) 4 a_power_of_d fd_power_of_d ["count"] (spPow CB K)) (g_power_of_d : mg "power_of_d" = some (.ref a_power_of_d)) (k_power_of_d : PySem.W.keepIn K (.ref a_power_of_d) = true) (b_power_of_d : Binds K fd_power_of_d ["count"] [])
    (G_by_falling : FnOk P w K mg base (L2.CX P w) 3 a_by_falling fd_by_falling ["poly"] (spByF K CP)) (g_by_falling : mg "by_falling" = some (.ref a_by_falling)) (k_by_falling : PySem.W.keepIn K (.ref a_by_falling) = true) (b_by_falling : Binds K fd_by_falling ["poly"] [])
    (G_value_at : FnOk P w K mg base (L2.CX P w) 3 a_value_at fd_value_at ["poly", "x"] (spValueAt K CP)) (g_value_at : mg "value_at" = some (.ref a_value_at)) (k_value_at : PySem.W.keepIn K (.ref a_value_at) = true) (b_value_at : Binds K fd_value_at ["poly", "x"] []) :
    FnG P w K mg base 6 f fd ["script"] (spLaw K) := by
  refine F.okG sc_law (fun vs H Q E h => ?_) (fun cdv A outer s H vs Q E hgu hr h => ?_)
  · obtain ⟨a, ns, rfl, _⟩ := h
    rfl
  · obtain ⟨sc, ns, rfl, hS, hlen, q⟩ := h
    refine ⟨_, (pss_cons (ps_set (i := 1) sc_law.nd rfl (.inl rfl) (pe_call G_law_draws (hr.mono (by decide)) rfl g_law_draws k_law_draws b_law_draws .nil pass0 (pa_cons (pv 0) pa_nil)))
  (pss_cons (ps_expr (pe_bm0 PySem.F.plainAttrs_list PySem.F.slot_list_reverse PySem.F.type_list_reverse mt_reverse (pv 1)))
  (pss_cons (ps_set (i := 2) sc_law.nd rfl (.inl rfl) (pe_op op_mod (pe_callTy call_int1 (by rfl) z_int boot_int (pa_cons (pe_call G_law_next (hr.mono (by decide)) rfl g_law_next k_law_next b_law_next .nil pass0 (pa_cons (pv 1) pa_nil)) pa_nil)) pe_int))
  (pss_cons (ps_set (i := 3) sc_law.nd rfl (.inl rfl) (pe_lst (pa_cons (pe_tup (pa_cons pe_int pa_nil)) (pa_cons (pe_tup (pa_cons pe_int pa_nil)) (pa_cons (pe_tup (pa_cons pe_int pa_nil)) pa_nil)))))
  (pss_cons (ps_for PassesOwn.never rfl (pi_range1 rfl z_range (pa_cons (pv 2) pa_nil)) (pg_name (i := 4) sc_law.nd rfl (.inr rfl)) (pss_one (ps_set (i := 3) sc_law.nd rfl (.inl rfl) (pe_lst (pa_cons (pe_call G_law_times (hr.mono (by decide)) rfl g_law_times k_law_times b_law_times .nil pass0 (pa_cons (pe_ix ix_list (pv 3) pe_int (fun _ _ => rfl)) (pa_cons (pe_tup (pa_cons (pe_op op_sub pe_int (pv 4)) (pa_cons pe_int pa_nil))) pa_nil))) (pa_cons (pe_call G_law_times (hr.mono (by decide)) rfl g_law_times k_law_times b_law_times .nil pass0 (pa_cons (pe_ix ix_list (pv 3) pe_int (fun _ _ => rfl)) (pa_cons (pe_tup (pa_cons (pv 4) (pa_cons pe_int pa_nil))) pa_nil))) (pa_cons (pe_call G_law_times (hr.mono (by decide)) rfl g_law_times k_law_times b_law_times .nil pass0 (pa_cons (pe_ix ix_list (pv 3) pe_int (fun _ _ => rfl)) (pa_cons (pe_tup (pa_cons pe_int (pa_cons pe_int pa_nil))) pa_nil))) pa_nil)))))))
  (pss_cons (ps_if (pt_cmpR op_ne (pe_callB (cr_reprD hgu (room65 hr)) (by rfl) z_repr boot_repr (pa_cons (pe_lst (pa_cons (pe_call G_falling (hr.mono (by decide)) rfl g_falling k_falling b_falling .nil passL (pa_cons (pv 2) pa_nil)) (pa_cons (pe_call G_rising (hr.mono (by decide)) rfl g_rising k_rising b_rising .nil passL (pa_cons (pv 2) pa_nil)) (pa_cons (pe_call G_power_of_d (hr.mono (by decide)) rfl g_power_of_d k_power_of_d b_power_of_d .nil passL (pa_cons (pv 2) pa_nil)) pa_nil)))) pa_nil)) (pe_callB (cr_reprD hgu (room65 hr)) (by rfl) z_repr boot_repr (pa_cons (pv 3) pa_nil)) (nomark _)) (pss_one (ps_ret pe_bl)) pss_nil)
  (pss_cons (ps_if (pt_cmpR (op_neD (room64 hr)) (pe_call G_roots (hr.mono (by decide)) rfl g_roots k_roots b_roots1 (show Vals [V.int 1000] [Value.int 1000 ur] from .cons ⟨ur, rfl⟩ .nil) passL (pa_cons (pe_call G_falling (hr.mono (by decide)) rfl g_falling k_falling b_falling .nil passL (pa_cons (pv 2) pa_nil)) pa_nil)) (pe_lc (own := [("j", 4)]) rfl sc_law.nd (pi_range1 rfl z_range (pa_cons (pv 2) pa_nil)) (blkOk_by (N := ["script", "draws", "count", "due", "j", "poly", "told", "total", "x", "many", "way", "part"]) (sc := defScope s_law) (by first | decide +kernel | rfl)) (fun _ _ _ _ _ => (pg_name (i := 4) sc_law.nd rfl (.inl rfl))) (fun _ _ _ _ _ => pts_nil) (fun _ _ _ _ _ => (pe_tup (pa_cons (pv 4) (pa_cons pe_int pa_nil))))) (nomark _)) (pss_one (ps_ret pe_bl)) pss_nil)
  (pss_cons (ps_set (i := 5) sc_law.nd rfl (.inl rfl) (pe_call G_law_poly (hr.mono (by decide)) rfl g_law_poly k_law_poly b_law_poly .nil pass0 (pa_cons (pv 1) (pa_cons pe_int pa_nil))))
  (pss_cons (ps_set (i := 6) sc_law.nd rfl (.inr rfl) (pe_call G_by_falling (hr.mono (by decide)) rfl g_by_falling k_by_falling b_by_falling .nil passL (pa_cons (pv 5) pa_nil)))
  (pss_cons (ps_if (L2.PW.pt (pw_or (pt_not (pt_val (pe_callB call_isi (by rfl) z_isinstance boot_isinstance (pa_cons (pv 6) (pa_cons (pe_bltn rfl z_list boot_list (show RelV (V.ty "list") (Value.type "list") from rfl)) pa_nil))))) (pw_or1 (pt_cmpR op_ne (pe_callB call_len_seq (by rfl) z_len boot_len (pa_cons (pv 6) pa_nil)) (pe_callB call_len_seq (by rfl) z_len boot_len (pa_cons (pv 5) pa_nil)) (nomark _))))) (pss_one (ps_ret pe_bl)) pss_nil)
  (pss_cons (ps_set (i := 7) sc_law.nd rfl (.inl rfl) (pe_tup pa_nil))
  (pss_cons (ps_for PassesOwn.never rfl (pi_range1 rfl z_range (pa_cons (pe_callB call_len_seq (by rfl) z_len boot_len (pa_cons (pv 6) pa_nil)) pa_nil)) (pg_name (i := 4) sc_law.nd rfl (.inr rfl)) (pss_cons (ps_set (i := 7) sc_law.nd rfl (.inl rfl) (pe_call G_law_plus (hr.mono (by decide)) rfl g_law_plus k_law_plus b_law_plus .nil pass0 (pa_cons (pv 7) (pa_cons (pe_callTy call_tuple_of (by rfl) z_tuple boot_tuple (pa_cons (pe_lc (own := [("part", 11)]) rfl sc_law.nd (pi_tup (pe_call G_falling (hr.mono (by decide)) rfl g_falling k_falling b_falling .nil passL (pa_cons (pv 4) pa_nil))) (blkOk_by (N := ["script", "draws", "count", "due", "j", "poly", "told", "total", "x", "many", "way", "part"]) (sc := defScope s_law) (by first | decide +kernel | rfl)) (fun _ _ _ _ _ => (pg_name (i := 11) sc_law.nd rfl (.inl rfl))) (fun _ _ _ _ _ => pts_nil) (fun _ _ _ _ _ => (pe_op op_mul (pe_ix (ix_listK (K := K) rfl) (pv 6) (pv 4) (fun _ _ => rfl)) (pv 11)))) pa_nil)) pa_nil))))
  (pss_one (ps_set (i := 7) sc_law.nd rfl (.inl rfl) (pe_call G_law_cutT (hr.mono (by decide)) rfl g_law_cut k_law_cut b_law_cut .nil pass0 (pa_cons (pv 7) pa_nil))))))
  (pss_cons (ps_if (L2.PW.pt (pw_or (pt_cmpR (op_neD (room64 hr)) (pv 7) (pv 5) (nomark _)) (pw_or1 (pt_not (pt_val (pe_callB (cr_all rfl) (by rfl) z_all boot_all (pa_cons (pe_lc (own := [("part", 11)]) rfl sc_law.nd (pi_list (pv 6)) (blkOk_by (N := ["script", "draws", "count", "due", "j", "poly", "told", "total", "x", "many", "way", "part"]) (sc := defScope s_law) (by first | decide +kernel | rfl)) (fun _ _ _ _ _ => (pg_name (i := 11) sc_law.nd rfl (.inl rfl))) (fun _ _ _ _ _ => pts_nil) (fun _ _ _ _ _ => (pe_callB (call_isiK (K := K) rfl) (by rfl) z_isinstance boot_isinstance (pa_cons (pv 11) (pa_cons (pe_bltn rfl z_int boot_int (show RelV (V.ty "int") (Value.type "int") from rfl)) pa_nil))))) pa_nil))))))) (pss_one (ps_ret pe_bl)) pss_nil)
  (pss_cons (ps_set (i := 8) sc_law.nd rfl (.inl rfl) (pe_op op_mod (pe_callTy call_int1 (by rfl) z_int boot_int (pa_cons (pe_call G_law_next (hr.mono (by decide)) rfl g_law_next k_law_next b_law_next .nil pass0 (pa_cons (pv 1) pa_nil)) pa_nil)) pe_int))
  (pss_cons (ps_set (i := 9) sc_law.nd rfl (.inl rfl) pe_int)
  (pss_cons (ps_for PassesOwn.never rfl (pi_range1 rfl z_range (pa_cons (pe_callB call_len_seq (by rfl) z_len boot_len (pa_cons (pv 6) pa_nil)) pa_nil)) (pg_name (i := 4) sc_law.nd rfl (.inr rfl)) (pss_one (ps_set (i := 9) sc_law.nd rfl (.inl rfl) (pe_op op_add (pv 9) (pe_op op_mul (pe_ix ix_list (pv 6) (pv 4) (fun _ _ => rfl)) (pe_call G_value_at (hr.mono (by decide)) rfl g_value_at k_value_at b_value_at .nil passL (pa_cons (pe_call G_falling (hr.mono (by decide)) rfl g_falling k_falling b_falling .nil passL (pa_cons (pv 4) pa_nil)) (pa_cons (pv 8) pa_nil))))))))
  (pss_cons (ps_if (pt_cmpR op_ne (pv 9) (pe_call G_law_value (hr.mono (by decide)) rfl g_law_value k_law_value b_law_value .nil pass0 (pa_cons (pv 5) (pa_cons (pv 8) pa_nil))) (nomark _)) (pss_one (ps_ret pe_bl)) pss_nil)
  (pss_one (ps_ret (pe_callB (cr_all rfl) (by rfl) z_all boot_all (pa_cons (pe_lc (own := [("way", 10)]) rfl sc_law.nd (pi_range1 rfl z_range (pa_cons pe_int pa_nil)) (blkOk_by (N := ["script", "draws", "count", "due", "j", "poly", "told", "total", "x", "many", "way", "part"]) (sc := defScope s_law) (by first | decide +kernel | rfl)) (fun _ _ _ _ _ => (pg_name (i := 10) sc_law.nd rfl (.inl rfl))) (fun _ _ _ _ _ => pts_nil) (fun _ _ _ _ _ => (pe_and (pe_call G_law_refuses (hr.mono (by decide)) rfl g_law_refuses k_law_refuses b_law_refuses .nil pass0 (pa_cons (pv 10) (pa_cons (pe_un un_neg pe_int) pa_nil))) (pe_one (pe_call G_law_refuses (hr.mono (by decide)) rfl g_law_refuses k_law_refuses b_law_refuses .nil pass0 (pa_cons (pv 10) (pa_cons pe_int pa_nil))))))) pa_nil))))))))))))))))))))), ?_⟩
    have szl : 3000 ≤ sizeLine := by decide
    refine ⟨_, rfl, sc, ns, rfl, hS, hlen, fun H1 r ds s1 nr hL => ?_⟩
    refine ⟨_, rfl, .inl ⟨rfl, _, .inl (.inl hL)⟩, r, _, rfl, rfl, hL, ?_⟩
    rw [← List.map_reverse]
    generalize ds.reverse = ds1
    refine ⟨_, rfl, r, ds1, rfl, upd_same, fun n1 ds2 => .inl ⟨n1, rfl, n1, 13, rfl, rfl, (show (0 : Int) < 13 by decide), ?_⟩⟩
    dsimp only
    obtain ⟨C, hC, eC⟩ : ∃ C : Nat, C < 13 ∧ n1 % 13 = (C : Int) := by
      have m := mod_lt8 n1 (show (0 : Int) < 13 by decide)
      exact ⟨(n1 % 13).toNat, by omega, by omega⟩
    rw [eC]
    have hL2 : upd (upd H1 r (.lst (ds1.map V.int))) r (.lst (ds2.map V.int)) r = some (.lst (ds2.map V.int)) := upd_same
    revert hL2
    generalize upd (upd H1 r (.lst (ds1.map V.int))) r (.lst (ds2.map V.int)) = H2
    intro hL2
    -- due
    refine ⟨(by show 1 ≤ sizeLine; decide), fun t0 nt0 => ⟨(by show 1 ≤ sizeLine; decide), fun t1 nt1 => ⟨(by show 1 ≤ sizeLine; decide), fun t2 nt2 => ⟨(by show 3 ≤ sizeLine; decide), fun g ng => ?_⟩⟩⟩⟩
    have i3 : ∀ b o, upd (upd (upd H2 t0 (.tup [.int 1])) t1 (.tup [.int 1])) t2 (.tup [.int 1]) b = some o → upd (upd (upd (upd H2 t0 (.tup [.int 1])) t1 (.tup [.int 1])) t2 (.tup [.int 1])) g (.lst [.ref t0, .ref t1, .ref t2]) b = some o := same_upd ng
    refine ⟨_, rfl, _, rfl, by omega, by omega, for_range (lo := 0) (n := C) (fun i σ H' => ∃ (g a b c : Addr) (v4 : Option V) (ds : List Int), σ = [some (.ref sc), some (.ref r), some (.int (C : Int)), some (.ref g), v4, none, none, none, none, none, none, none] ∧ H' r = some (.lst (ds.map V.int)) ∧ H' g = some (.lst [.ref a, .ref b, .ref c]) ∧
        H' a = some (.tup ((facL (-1) i).map V.int)) ∧ H' b = some (.tup ((facL 1 i).map V.int)) ∧ H' c = some (.tup ((powL i).map V.int)))
      ⟨g, t0, t1, t2, none, ds2, rfl, i3 _ _ (same_upd nt2 _ _ (same_upd nt1 _ _ (same_upd nt0 _ _ hL2))), upd_same, i3 _ _ (same_upd nt2 _ _ (same_upd nt1 _ _ upd_same)), i3 _ _ (same_upd nt2 _ _ upd_same), i3 _ _ upd_same⟩ (fun i σ H3 hi hP => ?_) (fun σ H3 hP => ?_)⟩
    · obtain ⟨g, a, b, c, v4, ds, rfl, hL, hg, ha, hb, hc⟩ := hP
      have two : ∀ (u : Int) (l zs : List Int), Pol zs → (∀ k, co zs k = conv l [u, 1] l.length k) → ∀ (m : List Int), Pol m → (∀ k, co m k = co (linL u 0 l) k) → zs = m := fun u l zs pz cz m pm hm => pol_ext pz pm fun k => by rw [cz, conv_lin, hm]
      have cm : ∀ (u : Int) (l : List Int), u.natAbs ≤ 100 → ∀ x ∈ l, ∀ y ∈ [u, 1], CMul x y := fun u l hu x _ y hy => by
        rcases List.mem_cons.mp hy with rfl | hy
        · exact .inr ⟨by omega, by omega⟩
        · rw [List.mem_singleton.mp hy]
          exact .inr ⟨by decide, by decide⟩
      refine ⟨_, rfl, g, _, 0, .ref a, rfl, rfl, .inl (.inl hg), atI_nat (j := 0) rfl, _, rfl, _, _, rfl, rfl, (by show 2 ≤ sizeLine; decide), fun p0 np0 => ?_⟩
      have q0 := same_upd (o := .tup [.int (0 - (0 + (i : Int))), .int 1]) np0
      refine ⟨a, p0, facL (-1) i, [0 - (0 + (i : Int)), 1], rfl, .inl (.inl (q0 _ _ ha)), .inl (.inl upd_same), cm _ _ (by omega), by rw [facL_len]; omega, (by show 2 ≤ 1000; decide), fun ta za H4 s4 _ hta pza cza _ => ?_⟩
      have s34 := Same.trans q0 s4
      obtain rfl := two _ _ _ pza cza (facL (-1) (i + 1)) (facL_pol _ _) fun k => by
        show co (linL (-1 * (i : Int)) 0 (facL (-1) i)) k = _
        rw [show -1 * (i : Int) = 0 - (0 + (i : Int)) by omega]
      refine ⟨_, rfl, g, _, 1, .ref b, rfl, rfl, .inl (.inl (s34 _ _ hg)), atI_nat (j := 1) rfl, _, rfl, (by show 2 ≤ sizeLine; decide), fun p1 np1 => ?_⟩
      have q1 := same_upd (o := .tup [.int (0 + (i : Int)), .int 1]) np1
      refine ⟨b, p1, facL 1 i, [0 + (i : Int), 1], rfl, .inl (.inl (q1 _ _ (s34 _ _ hb))), .inl (.inl upd_same), cm _ _ (by omega), by rw [facL_len]; omega, (by show 2 ≤ 1000; decide), fun tb zb H5 s5 _ htb pzb czb _ => ?_⟩
      have s45 := Same.trans q1 s5
      obtain rfl := two _ _ _ pzb czb (facL 1 (i + 1)) (facL_pol _ _) fun k => by
        show co (linL (1 * (i : Int)) 0 (facL 1 i)) k = _
        rw [show 1 * (i : Int) = 0 + (i : Int) by omega]
      refine ⟨_, rfl, g, _, 2, .ref c, rfl, rfl, .inl (.inl (s45 _ _ (s34 _ _ hg))), atI_nat (j := 2) rfl, (by show 2 ≤ sizeLine; decide), fun p2 np2 => ?_⟩
      have q2 := same_upd (o := .tup [.int 0, .int 1]) np2
      refine ⟨c, p2, powL i, [0, 1], rfl, .inl (.inl (q2 _ _ (s45 _ _ (s34 _ _ hc)))), .inl (.inl upd_same), cm _ _ (by decide), by rw [powL_len]; omega, (by show 2 ≤ 1000; decide), fun tc zc H6 s6 _ htc pzc czc _ => ?_⟩
      have s56 := Same.trans q2 s6
      obtain rfl := two _ _ _ pzc czc (powL (i + 1)) (powL_pol _) (powL_next i)
      refine ⟨(by show 3 ≤ sizeLine; decide), fun g' ng' => ?_⟩
      have q3 := same_upd (o := .lst [.ref ta, .ref tb, .ref tc]) ng'
      exact ⟨g', ta, tb, tc, _, ds, rfl, q3 _ _ (s56 _ _ (s45 _ _ (s34 _ _ hL))), upd_same, q3 _ _ (s56 _ _ (s45 _ _ hta)), q3 _ _ (s56 _ _ htb), q3 _ _ htc⟩
    obtain ⟨g, a, b, c, v4, ds, rfl, hL, hg, ha, hb, hc⟩ := hP
    clear i3
    -- repr
    have cr : 0 ≤ (C : Int) ∧ (C : Int) ≤ 40 := ⟨by omega, by omega⟩
    refine ⟨_, rfl, (C : Int), rfl, fun z => absurd cr z, fun _ _ ta H4 s4 hta => ?_⟩
    refine ⟨_, rfl, (C : Int), rfl, fun z => absurd cr z, fun _ _ tb H5 s5 htb => ?_⟩
    refine ⟨_, rfl, (C : Int), rfl, fun z => absurd cr z, fun _ _ tc H6 s6 htc => ?_⟩
    refine ⟨(by show 3 ≤ sizeLine; decide), fun g2 ng2 => ?_⟩
    have q7 := same_upd (o := .lst [.ref ta, .ref tb, .ref tc]) ng2
    rw [show ((C : Nat) : Int).toNat = C from rfl] at hta htb htc
    have sma : ∀ s : Int, s.natAbs ≤ 1 → SmL 1 30000 (dT (facL s C)) := fun s hs => (dT_small fun k => by
      have h1 := facL_small (c := 13) hs C (by omega) k
      have h2 : (13 + 1) ^ C ≤ 14 ^ 12 := Nat.pow_le_pow_right (by decide) (by omega)
      have h3 : 14 ^ 12 < 2 ^ 200 := by decide
      omega).more (by rw [facL_len]; omega)
    have smc : SmL 1 30000 (dT (powL C)) := (dT_small fun k => by
      rw [powL_co]
      split <;> decide).more (by rw [powL_len]; omega)
    have sm := smL_list (n := 1) (k := 30000) (ds := [dT (facL (-1) C), dT (facL 1 C), dT (powL C)]) fun X hX => by
      rcases List.mem_cons.mp hX with rfl | hX
      · exact sma _ (by decide)
      · rcases List.mem_cons.mp hX with rfl | hX
        · exact sma _ (by decide)
        · rw [List.mem_singleton.mp hX]
          exact smc
    have sw := sm.wide (by show (30000 + 2) * 3 + 3 ≤ 16777216; decide)
    refine ⟨.ref g2, _, rfl, .lst (.inl (.inl upd_same)) (.cons (TP.dp ⟨ta, rfl, q7 _ _ (s6 _ _ (s5 _ _ hta))⟩) (.cons (TP.dp ⟨tb, rfl, q7 _ _ (s6 _ _ htb)⟩) (.cons (.tup (sqT_same q7 htc) (ints_dp _)) .nil))), sm.shaped (by decide), sm.sho, sw, ?_⟩
    have s37 := Same.trans (Same.trans s4 (Same.trans s5 s6)) q7
    refine ⟨_, rfl, .ref g, _, rfl, .lst (.inl (.inl (s37 _ _ hg))) (.cons (TP.dp ⟨a, rfl, s37 _ _ ha⟩) (.cons (TP.dp ⟨b, rfl, s37 _ _ hb⟩) (.cons (TP.dp ⟨c, rfl, s37 _ _ hc⟩) .nil))), sm.shaped (by decide), sm.sho, sw, rfl, _, rfl, ?_⟩
    refine ite_same ?_
    have hL := s37 _ _ hL
    revert hL
    generalize upd H6 g2 (.lst [.ref ta, .ref tb, .ref tc]) = H7
    intro hL
    -- roots
    refine ⟨_, rfl, (C : Int), rfl, fun z => absurd cr z, fun _ _ td H8 s8 htd => ?_⟩
    have ef := pol_isP (facL_pol (-1) C) (by rw [facL_len]; omega)
    refine ⟨td, 1000, facL (-1) C, rfl, .inl (.inl htd), fun z => (by rw [ef] at z; exact nomatch z), fun _ => ⟨fun z => absurd z (facL_ne _ _), fun _ => ⟨fun z => absurd ⟨by decide, by decide⟩ z, fun _ _ D us H9 s9 _ hD pr => ?_⟩⟩⟩
    rw [rootsD_fac hC] at pr
    refine ⟨_, rfl, _, rfl, by omega, by omega, fun D2 nD2 => lc_range (lo := 0) (n := C) (fun i H' => SameBut D2 H9 H' ∧ ∃ ws, H' D2 = some (.lst ws) ∧ ws.length ≤ i ∧ Paired (Val1 H') ws (onesD i)) ⟨SameBut.upd, [], upd_same, Nat.le_refl _, .nil⟩ (fun i H' hi hP => ?_) (fun H' hP => ?_)⟩
    · obtain ⟨sb, ws, hD2, lw, pr2⟩ := hP
      refine ⟨rfl, ?_⟩
      refine ⟨_, rfl, (by show 2 ≤ sizeLine; decide), fun p np => ?_⟩
      have q8 := same_upd (o := .tup [.int (0 + (i : Int)), .int 1]) np
      refine ⟨ws, q8 _ _ hD2, by omega, (sb.trans (Same.but q8)).trans SameBut.upd, _, upd_same, by rw [List.length_append]; exact Nat.succ_le_succ lw, ?_⟩
      unfold onesD
      rw [List.range_succ, List.map_append]
      have ep : upd H' p (.tup [.int (0 + (i : Int)), .int 1]) p = some (.tup [.int (i : Int), .int 1]) := by rw [upd_same, Int.zero_add]
      refine paired_snoc ((Val1.pair ep).but SameBut.upd (q8 _ _ hD2)) (Paired.mapP pr2 fun _ _ h => (h.same q8).but SameBut.upd (q8 _ _ hD2))
    obtain ⟨sb, ws, hD2, lw, pr2⟩ := hP
    have st : Same H9 H' := fun b o e => sb _ _ (ne_of_none e nD2) e
    have sm2 := smL_list (n := 1) (k := 4000) (ds := onesD C) fun X hX => by
      obtain ⟨j, hj, rfl⟩ := List.mem_map.mp hX
      have := List.mem_range.mp hj
      exact smL_pair (by omega) (by decide)
    refine ⟨_, _, .lst (.inl (.inl (st _ _ hD))) (vals1_dp (Paired.mapP pr fun _ _ h => h.same st)), .lst (.inl (.inl hD2)) (vals1_dp pr2), sm2.shaped (by decide), sm2.shaped (by decide), _, rfl, ?_⟩
    rw [SeqAt.eqv_refl _ sm2.lay]
    refine iteF ?_
    have hL := st _ _ (s9 _ _ (s8 _ _ hL))
    clear pr pr2 hD hD2 sm sm2 sma smc sw nD2
    -- by_falling
    refine ⟨_, rfl, r, ds, 8, rfl, by decide, hL, fun o l ds3 H10 sb10 hL10 n10 ho pl sml ll => ?_⟩
    have el := pol_isP pl (by omega)
    refine ⟨_, rfl, o, l, rfl, .inl (.inl ho), fun z => (by rw [el] at z; exact nomatch z), fun _ D3 H11 s11 nD3 hD3 => ?_⟩
    have hrD : r ≠ D3 := ne_of_none hL10 nD3
    have hro : r ≠ o := ne_of hL10 ho (fun z => nomatch z)
    refine ⟨_, rfl, _, _, _, _, true, rfl, .ty _, .base (.lst hD3), kit_ty (by decide +kernel), _, rfl, iteF ?_⟩
    have ho := s11 _ _ ho
    have hL := s11 _ _ hL10
    refine ⟨_, rfl, D3, _, rfl, .inl (.inl (.inl hD3)), _, rfl, o, _, rfl, .inr (.inl (.inl ho)), rfl, _, rfl, ?_⟩
    rw [List.length_map, List.length_map, byFL_len]
    refine ite_same ?_
    -- total
    refine ⟨(by show 0 ≤ sizeLine; decide), fun tz ntz => ?_⟩
    have q12 := same_upd (o := .tup []) ntz
    have htz : upd H11 tz (.tup []) tz = some (.tup (([] : List Int).map V.int)) := upd_same
    have hD3 := q12 _ _ hD3
    have ho := q12 _ _ ho
    have hL := q12 _ _ hL
    revert htz hD3 ho hL
    generalize upd H11 tz (.tup []) = H12
    intro htz hD3 ho hL
    refine ⟨_, rfl, D3, _, rfl, .inl (.inl (.inl hD3)), ?_⟩
    rw [List.length_map, byFL_len]
    have fsm : ∀ i, i ≤ 8 → ∀ k, (co (facL (-1) i) k).natAbs < 2 ^ 60 := fun i hi k => by
      have h1 := facL_small (s := -1) (c := 8) (by decide) i hi k
      have h2 : (8 + 1) ^ i ≤ 9 ^ 8 := Nat.pow_le_pow_right (by decide) hi
      have h3 : (9 : Nat) ^ 8 < 2 ^ 60 := by decide
      omega
    refine ⟨_, rfl, by omega, by omega, for_range (lo := 0) (n := l.length) (fun i σ H' => ∃ (tt : Addr) (zs : List Int) (v4 : Option V), σ = [some (.ref sc), some (.ref r), some (.int (C : Int)), some (.ref g), v4, some (.ref o), some (.ref D3), some (.ref tt), none, none, none, none] ∧ Same H12 H' ∧ SqT K H' tt (zs.map V.int) ∧ Pol zs ∧ zs.length ≤ 20 ∧ ∀ k, co zs k = facSum l i k)
      ⟨tz, [], _, rfl, Same.refl _, .inl (.inl htz), .inl rfl, by decide, fun k => co_ge (Nat.zero_le _)⟩ (fun i σ H13 hi hP => ?_) (fun σ H13 hP => ?_)⟩
    · obtain ⟨tt, zs, v4, rfl, s13, htt, pz, lz, cz⟩ := hP
      have ei : ((0 : Int) + (i : Int)) = ((i : Nat) : Int) := Int.zero_add _
      have hr2 : 0 ≤ ((0 : Int) + (i : Int)) ∧ ((0 : Int) + (i : Int)) ≤ 40 := ⟨by omega, by omega⟩
      refine ⟨_, rfl, _, rfl, (0 : Int) + (i : Int), rfl, fun z => absurd hr2 z, fun _ _ tf H14 s14 htf => ?_⟩
      rw [show ((0 : Int) + (i : Int)).toNat = i by omega] at htf
      refine ⟨tf, rfl, ⟨_, .inl (.inl htf)⟩, fun D4 nD4 => ?_⟩
      have hD14 := s14 _ _ (s13 _ _ hD3)
      let nm : List Int := (facL (-1) i).map fun y => byF l i * y
      have lnm : nm.length = (facL (-1) i).length := List.length_map ..
      have cnm : ∀ k, co nm k = byF l i * co (facL (-1) i) k := fun k => co_map (Int.mul_zero _) _ k
      refine lc_it walk_tup (fun j H' => SameBut D4 H14 H' ∧ H' D4 = some (.lst ((nm.take j).map V.int))) ⟨SameBut.upd, upd_same⟩ (fun j H' _ hP => .inl (.inl (hP.1 _ _ (ne_of_none htf nD4) htf))) (fun j y H15 H16 hj hP hy => ?_) (fun H15 hP => ?_)
      · obtain ⟨sb, hD⟩ := hP
        obtain ⟨e0, hy⟩ := hy
        subst e0
        rw [List.length_map] at hj
        have ey : ((facL (-1) i).map V.int)[j]? = some (.int (co (facL (-1) i) j)) := by rw [List.getElem?_map, co_get hj]; rfl
        obtain rfl : V.int (co (facL (-1) i) j) = y := Option.some.inj (ey.symm.trans hy)
        refine ⟨rfl, ?_⟩
        have sj := fsm i (by omega) j
        have lf := facL_len (-1) i
        refine ⟨_, rfl, _, rfl, D3, _, _, _, rfl, rfl, .inl (.inl (sb _ _ (ne_of_none hD14 nD4) hD14)), (by rw [ei]; exact at_co (show i < (byFL l).length by rw [byFL_len]; exact hi)), _, rfl, _, _, rfl, rfl, .inr ⟨by omega, by omega⟩, ?_⟩
        refine ⟨_, hD, by rw [List.length_map, List.length_take]; omega, sb.trans SameBut.upd, ?_⟩
        rw [upd_same, List.take_succ, co_get (l := nm) (k := j) (by omega), cnm, List.map_append, byFL_co hi]
        rfl
      obtain ⟨sb, hD⟩ := hP
      rw [List.length_map, ← lnm, List.take_length] at hD
      have s15 : Same H14 H15 := fun b o e => sb _ _ (ne_of_none e nD4) e
      refine ⟨D4, _, rfl, .inl ⟨.inl (.inl hD), fun o3 n3 => ?_⟩⟩
      have q15 := same_upd (o := .tup (nm.map V.int)) n3
      have s16 := Same.trans s14 (Same.trans s15 q15)
      have lf := facL_len (-1) i
      refine ⟨tt, o3, zs, nm, rfl, sqT_same s16 htt, .inl (.inl upd_same), by omega, by omega, fun t zs' H17 s17 _ ht pz' cz' lz' => ?_⟩
      have lz2 : zs'.length ≤ 20 := Nat.le_trans lz' (Nat.max_le.mpr ⟨lz, by omega⟩)
      refine ⟨_, rfl, t, zs', rfl, .inl (.inl ht), by omega, fun t2 zs2 H18 s18 ht2 tr => ?_⟩
      refine ⟨t2, zs2, _, rfl, Same.trans s13 (Same.trans s16 (Same.trans s17 s18)), ht2, tr.pol, by have := tr.len; omega, fun k => ?_⟩
      rw [tr.co, cz', cz, cnm]
      rfl
    obtain ⟨tt, zs, v4, rfl, s13, htt, pz, lz, cz⟩ := hP
    have ez : zs = l := pol_ext pz pl fun k => by rw [cz, facSum_end]
    subst ez
    have hD3 := s13 _ _ hD3
    have ho := s13 _ _ ho
    have hL := s13 _ _ hL
    refine ⟨_, rfl, _, rfl, neD_sq htt (.inl (.inl ho)) ⟨_, rfl, ?_⟩⟩
    rw [decide_eq_true rfl]
    refine iteF ?_
    -- all of them integers
    refine ⟨_, rfl, D3, rfl, ⟨_, .inl (.inl hD3)⟩, fun D5 nD5 => ?_⟩
    have tr5 : ∀ {H' : Hp}, SameBut D5 H13 H' → Same H13 H' := fun sb b o e => sb _ _ (ne_of_none e nD5) e
    refine lc_list (xs := (byFL zs).map V.int) (fun i H' => SameBut D5 H13 H' ∧ H' D5 = some (.lst ((List.replicate i true).map V.bl))) ⟨SameBut.upd, upd_same⟩ (fun i H' _ hP => .inl (.inl (tr5 hP.1 _ _ hD3))) (fun i y H' hi hP => ?_) (fun H' hP => ?_)
    · obtain ⟨sb, hD⟩ := hP
      obtain ⟨z, _, rfl⟩ := map_int_get hi
      have hlt : i < ((byFL zs).map V.int).length := (List.getElem?_eq_some_iff.mp hi).1
      rw [List.length_map, byFL_len] at hlt
      refine ⟨rfl, ?_⟩
      refine ⟨_, rfl, _, _, _, _, true, rfl, .ty _, .base (.int _), kit_ty (by decide +kernel), _, hD, by rw [List.length_map, List.length_replicate]; omega, sb.trans SameBut.upd, ?_⟩
      rw [upd_same, rep_snoc]
    obtain ⟨sb, hD⟩ := hP
    have st5 := tr5 sb
    refine ⟨D5, _, rfl, .inl (.inl hD), _, rfl, ?_⟩
    rw [all_rep]
    refine iteF ?_
    have hD3 := st5 _ _ hD3
    have ho := st5 _ _ ho
    have hL := st5 _ _ hL
    clear htt htz hD nD5
    -- x
    refine ⟨_, rfl, r, ds3, rfl, hL, fun n5 ds5 => .inl ⟨n5, rfl, n5, 20, rfl, rfl, (show (0 : Int) < 20 by decide), ?_⟩⟩
    have m5 := mod_lt8 n5 (show (0 : Int) < 20 by decide)
    dsimp only
    revert m5
    generalize n5 % 20 = x
    intro m5
    have hD3' : upd H' r (.lst (ds5.map V.int)) D3 = some (.lst ((byFL zs).map V.int)) := by rw [upd_ne (Ne.symm hrD)]; exact hD3
    have ho' : upd H' r (.lst (ds5.map V.int)) o = some (.tup (zs.map V.int)) := by rw [upd_ne (Ne.symm hro)]; exact ho
    revert hD3' ho'
    generalize upd H' r (.lst (ds5.map V.int)) = H14
    intro hD3 ho
    refine ⟨_, rfl, D3, _, rfl, .inl (.inl (.inl hD3)), ?_⟩
    rw [List.length_map, byFL_len]
    refine ⟨_, rfl, by omega, by omega, for_range (lo := 0) (n := zs.length) (fun i σ H' => ∃ (v4 : Option V), σ = [some (.ref sc), some (.ref r), some (.int (C : Int)), some (.ref g), v4, some (.ref o), some (.ref D3), some (.ref tt), some (.int x), some (.int (evSum x zs i)), none, none] ∧ Same H14 H')
      ⟨_, rfl, Same.refl _⟩ (fun i σ H15 hi hP => ?_) (fun σ H15 hP => ?_)⟩
    · obtain ⟨v4, rfl, s15⟩ := hP
      have ei : ((0 : Int) + (i : Int)) = ((i : Nat) : Int) := Int.zero_add _
      have hr2 : 0 ≤ ((0 : Int) + (i : Int)) ∧ ((0 : Int) + (i : Int)) ≤ 40 := ⟨by omega, by omega⟩
      refine ⟨_, rfl, _, rfl, _, rfl, D3, _, _, _, rfl, rfl, .inl (.inl (s15 _ _ hD3)), (by rw [ei]; exact at_co (show i < (byFL zs).length by rw [byFL_len]; exact hi)), _, rfl, (0 : Int) + (i : Int), rfl, fun z => absurd hr2 z, fun _ _ tf H16 s16 htf => ?_⟩
      rw [show ((0 : Int) + (i : Int)).toNat = i by omega] at htf
      have e1 := pol_isP (facL_pol (-1) i) (by rw [facL_len]; omega)
      refine ⟨_, rfl, tf, x, _, rfl, .inl (.inl htf), fun z => (by rw [e1] at z; exact nomatch z), fun _ => ⟨by omega, fun H17 s17 => ?_⟩⟩
      have ev8 : (ev x (facL (-1) i)).natAbs < 2 ^ 60 := by
        have h1 := facL_ev_small (s := -1) (x := x) (c := 20) (by decide) (by omega) i (by omega)
        have h2 : (2 * 20) ^ i ≤ 40 ^ 8 := Nat.pow_le_pow_right (by decide) (by omega)
        have h3 : (40 : Nat) ^ 8 < 2 ^ 60 := by decide
        omega
      refine ⟨_, _, rfl, rfl, .inr ⟨by omega, by omega⟩, _, _, rfl, rfl, some (.int (0 + (i : Int))), ?_, Same.trans s15 (Same.trans s16 s17)⟩
      rw [byFL_co hi]
      rfl
    obtain ⟨v4, rfl, s15⟩ := hP
    have smY : ∀ y ∈ zs, y.natAbs < 2 ^ 62 := fun y hy => by
      have := smP_mem sml y hy
      omega
    refine ⟨_, rfl, _, rfl, _, rfl, o, x, zs, rfl, .inl (.inl (s15 _ _ ho)), smY, by omega, rfl, _, rfl, ?_⟩
    rw [evSum_end]
    refine ite_same ?_
    -- refused
    refine ⟨3, rfl, by decide, by decide, fun D6 nD6 => ?_⟩
    refine lc_range (lo := 0) (n := 3) (fun i H' => SameBut D6 H15 H' ∧ H' D6 = some (.lst ((List.replicate i true).map V.bl))) ⟨SameBut.upd, upd_same⟩ (fun i H' hi hP => ?_) (fun H' hP => ?_)
    · obtain ⟨sb, hD⟩ := hP
      refine ⟨rfl, ?_⟩
      refine ⟨_, rfl, _, rfl, 0 + (i : Int), -1, rfl, by omega, by omega, by decide, fun H16 s16 => ⟨_, rfl, iteT ?_⟩⟩
      refine ⟨_, rfl, 0 + (i : Int), 41, rfl, by omega, by omega, by decide, fun H17 s17 => ?_⟩
      have s67 := Same.trans s16 s17
      refine ⟨_, s67 _ _ hD, by rw [List.length_map, List.length_replicate]; omega, (sb.trans (Same.but s67)).trans SameBut.upd, ?_⟩
      rw [upd_same, rep_snoc]
    obtain ⟨sb, hD⟩ := hP
    refine ⟨D6, _, rfl, .inl (.inl hD), ?_⟩
    rw [all_rep]
    exact q _
end

theorem all_mk {P : Program} {w : World} {K : PySem.W.Frag} {h : Heap} {mg : Str → Option Value} {fa : Addr} (X : K.In h) (G : h.Ns mainGlobals mg) (hfa : mg "law" = some (.ref fa))
    {f_law_plain : Addr} {od_law_plain an_law_plain : Option Addr} {sl_law_plain : Array (Option Value)} {oc_law_plain kV_law_plain dc_law_plain pm_law_plain cd_law_plain ct_law_plain : Value}
    {f_law_next : Addr} {od_law_next an_law_next : Option Addr} {sl_law_next : Array (Option Value)} {oc_law_next kV_law_next dc_law_next pm_law_next cd_law_next ct_law_next : Value}
    {f_law_draws : Addr} {od_law_draws an_law_draws : Option Addr} {sl_law_draws : Array (Option Value)} {oc_law_draws kV_law_draws dc_law_draws pm_law_draws cd_law_draws ct_law_draws : Value}
    {f_is_poly : Addr} {od_is_poly an_is_poly : Option Addr} {sl_is_poly : Array (Option Value)} {oc_is_poly kV_is_poly dc_is_poly pm_is_poly cd_is_poly ct_is_poly : Value}
    {f_check_poly : Addr} {od_check_poly an_check_poly : Option Addr} {sl_check_poly : Array (Option Value)} {oc_check_poly kV_check_poly dc_check_poly pm_check_poly cd_check_poly ct_check_poly : Value}
    {f_law_cut : Addr} {od_law_cut an_law_cut : Option Addr} {sl_law_cut : Array (Option Value)} {oc_law_cut kV_law_cut dc_law_cut pm_law_cut cd_law_cut ct_law_cut : Value}
    {f_law_poly : Addr} {od_law_poly an_law_poly : Option Addr} {sl_law_poly : Array (Option Value)} {oc_law_poly kV_law_poly dc_law_poly pm_law_poly cd_law_poly ct_law_poly : Value}
    {f_law_times : Addr} {od_law_times an_law_times : Option Addr} {sl_law_times : Array (Option Value)} {oc_law_times kV_law_times dc_law_times pm_law_times cd_law_times ct_law_times : Value}
    {f_law_plus : Addr} {od_law_plus an_law_plus : Option Addr} {sl_law_plus : Array (Option Value)} {oc_law_plus kV_law_plus dc_law_plus pm_law_plus cd_law_plus ct_law_plus : Value}
    {f_law_value : Addr} {od_law_value an_law_value : Option Addr} {sl_law_value : Array (Option Value)} {oc_law_value kV_law_value dc_law_value pm_law_value cd_law_value ct_law_value : Value}
    {f_multiplied_polys : Addr} {od_multiplied_polys an_multiplied_polys : Option Addr} {sl_multiplied_polys : Array (Option Value)} {oc_multiplied_polys kV_multiplied_polys dc_multiplied_polys pm_multiplied_polys cd_multiplied_polys ct_multiplied_polys : Value}
    {f_split_off_ : Addr} {od_split_off_ an_split_off_ : Option Addr} {sl_split_off_ : Array (Option Value)} {oc_split_off_ kV_split_off_ dc_split_off_ pm_split_off_ cd_split_off_ ct_split_off_ : Value}
    {f_value_at : Addr} {od_value_at an_value_at : Option Addr} {sl_value_at : Array (Option Value)} {oc_value_at kV_value_at dc_value_at pm_value_at cd_value_at ct_value_at : Value}
    {f_root_count_ : Addr} {od_root_count_ an_root_count_ : Option Addr} {sl_root_count_ : Array (Option Value)} {oc_root_count_ kV_root_count_ dc_root_count_ pm_root_count_ cd_root_count_ ct_root_count_ : Value}
    {dK_roots : Addr}
    {f_roots : Addr} {od_roots an_roots : Option Addr} {sl_roots : Array (Option Value)} {oc_roots dc_roots pm_roots cd_roots ct_roots : Value}
    {f_check_count_ : Addr} {od_check_count_ an_check_count_ : Option Addr} {sl_check_count_ : Array (Option Value)} {oc_check_count_ kV_check_count_ dc_check_count_ pm_check_count_ cd_check_count_ ct_check_count_ : Value}
    {f_power_of_d : Addr} {od_power_of_d an_power_of_d : Option Addr} {sl_power_of_d : Array (Option Value)} {oc_power_of_d kV_power_of_d dc_power_of_d pm_power_of_d cd_power_of_d ct_power_of_d : Value}
    {f_falling : Addr} {od_falling an_falling : Option Addr} {sl_falling : Array (Option Value)} {oc_falling kV_falling dc_falling pm_falling cd_falling ct_falling : Value}
    {f_rising : Addr} {od_rising an_rising : Option Addr} {sl_rising : Array (Option Value)} {oc_rising kV_rising dc_rising pm_rising cd_rising ct_rising : Value}
    {f_by_falling : Addr} {od_by_falling an_by_falling : Option Addr} {sl_by_falling : Array (Option Value)} {oc_by_falling kV_by_falling dc_by_falling pm_by_falling cd_by_falling ct_by_falling : Value}
    {f_law_refuses : Addr} {od_law_refuses an_law_refuses : Option Addr} {sl_law_refuses : Array (Option Value)} {oc_law_refuses kV_law_refuses dc_law_refuses pm_law_refuses cd_law_refuses ct_law_refuses : Value}
    {f_law : Addr} {od_law an_law : Option Addr} {sl_law : Array (Option Value)} {oc_law kV_law dc_law pm_law cd_law ct_law : Value}
    {CB : Addr}
    {CN : Addr}
    {CP : Addr}
    {CT : Addr}
    {tm_MOST_PARTS : Tok}
    {tm_MOST_ROOT : Tok}
    {tm_MOST_COUNT : Tok}
    {uk_roots : Tok}
    (a_law_plain : PySem.W.nsIn K mainGlobals "_law_plain" = some (some (.ref f_law_plain))) (l_law_plain : K.lookup f_law_plain = some ⟨oc_law_plain, od_law_plain, .func (PySem.W.fnOf "_law_plain" "_law_plain" (defArgs s_law_plain) (defBody s_law_plain) (defScope s_law_plain) .none kV_law_plain dc_law_plain pm_law_plain an_law_plain cd_law_plain ct_law_plain), sl_law_plain⟩) (c_law_plain : PySem.W.codeIn K cd_law_plain "_law_plain" = true) (k_law_plain : PySem.W.keepIn K (.ref f_law_plain) = true)
    (a_law_next : PySem.W.nsIn K mainGlobals "_law_next" = some (some (.ref f_law_next))) (l_law_next : K.lookup f_law_next = some ⟨oc_law_next, od_law_next, .func (PySem.W.fnOf "_law_next" "_law_next" (defArgs s_law_next) (defBody s_law_next) (defScope s_law_next) .none kV_law_next dc_law_next pm_law_next an_law_next cd_law_next ct_law_next), sl_law_next⟩) (c_law_next : PySem.W.codeIn K cd_law_next "_law_next" = true) (k_law_next : PySem.W.keepIn K (.ref f_law_next) = true)
    (a_law_draws : PySem.W.nsIn K mainGlobals "_law_draws" = some (some (.ref f_law_draws))) (l_law_draws : K.lookup f_law_draws = some ⟨oc_law_draws, od_law_draws, .func (PySem.W.fnOf "_law_draws" "_law_draws" (defArgs s_law_draws) (defBody s_law_draws) (defScope s_law_draws) .none kV_law_draws dc_law_draws pm_law_draws an_law_draws cd_law_draws ct_law_draws), sl_law_draws⟩) (c_law_draws : PySem.W.codeIn K cd_law_draws "_law_draws" = true) (k_law_draws : PySem.W.keepIn K (.ref f_law_draws) = true)
    (a_is_poly : PySem.W.nsIn K mainGlobals "is_poly" = some (some (.ref f_is_poly))) (l_is_poly : K.lookup f_is_poly = some ⟨oc_is_poly, od_is_poly, .func (PySem.W.fnOf "is_poly" "is_poly" (defArgs s_is_poly) (defBody s_is_poly) (defScope s_is_poly) .none kV_is_poly dc_is_poly pm_is_poly an_is_poly cd_is_poly ct_is_poly), sl_is_poly⟩) (c_is_poly : PySem.W.codeIn K cd_is_poly "is_poly" = true) (k_is_poly : PySem.W.keepIn K (.ref f_is_poly) = true)
    (a_check_poly : PySem.W.nsIn K mainGlobals "check_poly" = some (some (.ref f_check_poly))) (l_check_poly : K.lookup f_check_poly = some ⟨oc_check_poly, od_check_poly, .func (PySem.W.fnOf "check_poly" "check_poly" (defArgs s_check_poly) (defBody s_check_poly) (defScope s_check_poly) .none kV_check_poly dc_check_poly pm_check_poly an_check_poly cd_check_poly ct_check_poly), sl_check_poly⟩) (c_check_poly : PySem.W.codeIn K cd_check_poly "check_poly" = true) (k_check_poly : PySem.W.keepIn K (.ref f_check_poly) = true)
    (a_law_cut : PySem.W.nsIn K mainGlobals "_law_cut" = some (some (.ref f_law_cut))) (l_law_cut : K.lookup f_law_cut = some ⟨oc_law_cut, od_law_cut, .func (PySem.W.fnOf "_law_cut" "_law_cut" (defArgs s_law_cut) (defBody s_law_cut) (defScope s_law_cut) .none kV_law_cut dc_law_cut pm_law_cut an_law_cut cd_law_cut ct_law_cut), sl_law_cut⟩) (c_law_cut : PySem.W.codeIn K cd_law_cut "_law_cut" = true) (k_law_cut : PySem.W.keepIn K (.ref f_law_cut) = true)
    (a_law_poly : PySem.W.nsIn K mainGlobals "_law_poly" = some (some (.ref f_law_poly))) (l_law_poly : K.lookup f_law_poly = some ⟨oc_law_poly, od_law_poly, .func (PySem.W.fnOf "_law_poly" "_law_poly" (defArgs s_law_poly) (defBody s_law_poly) (defScope s_law_poly) .none kV_law_poly dc_law_poly pm_law_poly an_law_poly cd_law_poly ct_law_poly), sl_law_poly⟩) (c_law_poly : PySem.W.codeIn K cd_law_poly "_law_poly" = true) (k_law_poly : PySem.W.keepIn K (.ref f_law_poly) = true)
    (a_law_times : PySem.W.nsIn K mainGlobals "_law_times" = some (some (.ref f_law_times))) (l_law_times : K.lookup f_law_times = some ⟨oc_law_times, od_law_times, .func (PySem.W.fnOf "_law_times" "_law_times" (defArgs s_law_times) (defBody s_law_times) (defScope s_law_times) .none kV_law_times dc_law_times pm_law_times an_law_times cd_law_times ct_law_times), sl_law_times⟩) (c_law_times : PySem.W.codeIn K cd_law_times "_law_times" = true) (k_law_times : PySem.W.keepIn K (.ref f_law_times) = true)
    (a_law_plus : PySem.W.nsIn K mainGlobals "_law_plus" = some (some (.ref f_law_plus))) (l_law_plus : K.lookup f_law_plus = some ⟨oc_law_plus, od_law_plus, .func (PySem.W.fnOf "_law_plus" "_law_plus" (defArgs s_law_plus) (defBody s_law_plus) (defScope s_law_plus) .none kV_law_plus dc_law_plus pm_law_plus an_law_plus cd_law_plus ct_law_plus), sl_law_plus⟩) (c_law_plus : PySem.W.codeIn K cd_law_plus "_law_plus" = true) (k_law_plus : PySem.W.keepIn K (.ref f_law_plus) = true)
    (a_law_value : PySem.W.nsIn K mainGlobals "_law_value" = some (some (.ref f_law_value))) (l_law_value : K.lookup f_law_value = some ⟨oc_law_value, od_law_value, .func (PySem.W.fnOf "_law_value" "_law_value" (defArgs s_law_value) (defBody s_law_value) (defScope s_law_value) .none kV_law_value dc_law_value pm_law_value an_law_value cd_law_value ct_law_value), sl_law_value⟩) (c_law_value : PySem.W.codeIn K cd_law_value "_law_value" = true) (k_law_value : PySem.W.keepIn K (.ref f_law_value) = true)
    (a_multiplied_polys : PySem.W.nsIn K mainGlobals "multiplied_polys" = some (some (.ref f_multiplied_polys))) (l_multiplied_polys : K.lookup f_multiplied_polys = some ⟨oc_multiplied_polys, od_multiplied_polys, .func (PySem.W.fnOf "multiplied_polys" "multiplied_polys" (defArgs s_multiplied_polys) (defBody s_multiplied_polys) (defScope s_multiplied_polys) .none kV_multiplied_polys dc_multiplied_polys pm_multiplied_polys an_multiplied_polys cd_multiplied_polys ct_multiplied_polys), sl_multiplied_polys⟩) (c_multiplied_polys : PySem.W.codeIn K cd_multiplied_polys "multiplied_polys" = true) (k_multiplied_polys : PySem.W.keepIn K (.ref f_multiplied_polys) = true)
    (a_split_off_ : PySem.W.nsIn K mainGlobals "_split_off" = some (some (.ref f_split_off_))) (l_split_off_ : K.lookup f_split_off_ = some ⟨oc_split_off_, od_split_off_, .func (PySem.W.fnOf "_split_off" "_split_off" (defArgs s_split_off_) (defBody s_split_off_) (defScope s_split_off_) .none kV_split_off_ dc_split_off_ pm_split_off_ an_split_off_ cd_split_off_ ct_split_off_), sl_split_off_⟩) (c_split_off_ : PySem.W.codeIn K cd_split_off_ "_split_off" = true) (k_split_off_ : PySem.W.keepIn K (.ref f_split_off_) = true)
    (a_value_at : PySem.W.nsIn K mainGlobals "value_at" = some (some (.ref f_value_at))) (l_value_at : K.lookup f_value_at = some ⟨oc_value_at, od_value_at, .func (PySem.W.fnOf "value_at" "value_at" (defArgs s_value_at) (defBody s_value_at) (defScope s_value_at) .none kV_value_at dc_value_at pm_value_at an_value_at cd_value_at ct_value_at), sl_value_at⟩) (c_value_at : PySem.W.codeIn K cd_value_at "value_at" = true) (k_value_at : PySem.W.keepIn K (.ref f_value_at) = true)
    (a_root_count_ : PySem.W.nsIn K mainGlobals "_root_count" = some (some (.ref f_root_count_))) (l_root_count_ : K.lookup f_root_count_ = some ⟨oc_root_count_, od_root_count_, .func (PySem.W.fnOf "_root_count" "_root_count" (defArgs s_root_count_) (defBody s_root_count_) (defScope s_root_count_) .none kV_root_count_ dc_root_count_ pm_root_count_ an_root_count_ cd_root_count_ ct_root_count_), sl_root_count_⟩) (c_root_count_ : PySem.W.codeIn K cd_root_count_ "_root_count" = true) (k_root_count_ : PySem.W.keepIn K (.ref f_root_count_) = true)
    (a_roots : PySem.W.nsIn K mainGlobals "roots" = some (some (.ref f_roots))) (l_roots : K.lookup f_roots = some ⟨oc_roots, od_roots, .func (PySem.W.fnOf "roots" "roots" (defArgs s_roots) (defBody s_roots) (defScope s_roots) .none (.ref dK_roots) dc_roots pm_roots an_roots cd_roots ct_roots), sl_roots⟩) (c_roots : PySem.W.codeIn K cd_roots "roots" = true) (k_roots : PySem.W.keepIn K (.ref f_roots) = true)
    (a_check_count_ : PySem.W.nsIn K mainGlobals "_check_count" = some (some (.ref f_check_count_))) (l_check_count_ : K.lookup f_check_count_ = some ⟨oc_check_count_, od_check_count_, .func (PySem.W.fnOf "_check_count" "_check_count" (defArgs s_check_count_) (defBody s_check_count_) (defScope s_check_count_) .none kV_check_count_ dc_check_count_ pm_check_count_ an_check_count_ cd_check_count_ ct_check_count_), sl_check_count_⟩) (c_check_count_ : PySem.W.codeIn K cd_check_count_ "_check_count" = true) (k_check_count_ : PySem.W.keepIn K (.ref f_check_count_) = true)
    (a_power_of_d : PySem.W.nsIn K mainGlobals "power_of_d" = some (some (.ref f_power_of_d))) (l_power_of_d : K.lookup f_power_of_d = some ⟨oc_power_of_d, od_power_of_d, .func (PySem.W.fnOf "power_of_d" "power_of_d" (defArgs s_power_of_d) (defBody s_power_of_d) (defScope s_power_of_d) .none kV_power_of_d dc_power_of_d pm_power_of_d an_power_of_d cd_power_of_d ct_power_of_d), sl_power_of_d⟩) (c_power_of_d : PySem.W.codeIn K cd_power_of_d "power_of_d" = true) (k_power_of_d : PySem.W.keepIn K (.ref f_power_of_d) = true)
    (a_falling : PySem.W.nsIn K mainGlobals "falling" = some (some (.ref f_falling))) (l_falling : K.lookup f_falling = some ⟨oc_falling, od_falling, .func (PySem.W.fnOf "falling" "falling" (defArgs s_falling) (defBody s_falling) (defScope s_falling) .none kV_falling dc_falling pm_falling an_falling cd_falling ct_falling), sl_falling⟩) (c_falling : PySem.W.codeIn K cd_falling "falling" = true) (k_falling : PySem.W.keepIn K (.ref f_falling) = true)
    (a_rising : PySem.W.nsIn K mainGlobals "rising" = some (some (.ref f_rising))) (l_rising : K.lookup f_rising = some ⟨oc_rising, od_rising, .func (PySem.W.fnOf "rising" "rising" (defArgs s_rising) (defBody s_rising) (defScope s_rising) .none kV_rising dc_rising pm_rising an_rising cd_rising ct_rising), sl_rising⟩) (c_rising : PySem.W.codeIn K cd_rising "rising" = true) (k_rising : PySem.W.keepIn K (.ref f_rising) = true)
    (a_by_falling : PySem.W.nsIn K mainGlobals "by_falling" = some (some (.ref f_by_falling))) (l_by_falling : K.lookup f_by_falling = some ⟨oc_by_falling, od_by_falling, .func (PySem.W.fnOf "by_falling" "by_falling" (defArgs s_by_falling) (defBody s_by_falling) (defScope s_by_falling) .none kV_by_falling dc_by_falling pm_by_falling an_by_falling cd_by_falling ct_by_falling), sl_by_falling⟩) (c_by_falling : PySem.W.codeIn K cd_by_falling "by_falling" = true) (k_by_falling : PySem.W.keepIn K (.ref f_by_falling) = true)
    (a_law_refuses : PySem.W.nsIn K mainGlobals "_law_refuses" = some (some (.ref f_law_refuses))) (l_law_refuses : K.lookup f_law_refuses = some ⟨oc_law_refuses, od_law_refuses, .func (PySem.W.fnOf "_law_refuses" "_law_refuses" (defArgs s_law_refuses) (defBody s_law_refuses) (defScope s_law_refuses) .none kV_law_refuses dc_law_refuses pm_law_refuses an_law_refuses cd_law_refuses ct_law_refuses), sl_law_refuses⟩) (c_law_refuses : PySem.W.codeIn K cd_law_refuses "_law_refuses" = true) (k_law_refuses : PySem.W.keepIn K (.ref f_law_refuses) = true)
    (a_law : PySem.W.nsIn K mainGlobals "law" = some (some (.ref f_law))) (l_law : K.lookup f_law = some ⟨oc_law, od_law, .func (PySem.W.fnOf "law" "law" (defArgs s_law) (defBody s_law) (defScope s_law) .none kV_law dc_law pm_law an_law cd_law ct_law), sl_law⟩) (c_law : PySem.W.codeIn K cd_law "law" = true) (k_law : PySem.W.keepIn K (.ref f_law) = true)
    (zn_int : PySem.W.nsIn K mainGlobals "int" = some none)
    (zn_range : PySem.W.nsIn K mainGlobals "range" = some none)
    (zn_len : PySem.W.nsIn K mainGlobals "len" = some none)
    (zn_list : PySem.W.nsIn K mainGlobals "list" = some none)
    (zn_tuple : PySem.W.nsIn K mainGlobals "tuple" = some none)
    (zn_max : PySem.W.nsIn K mainGlobals "max" = some none)
    (zn_enumerate : PySem.W.nsIn K mainGlobals "enumerate" = some none)
    (zn_reversed : PySem.W.nsIn K mainGlobals "reversed" = some none)
    (zn_all : PySem.W.nsIn K mainGlobals "all" = some none)
    (zn_repr : PySem.W.nsIn K mainGlobals "repr" = some none)
    (zn_isinstance : PySem.W.nsIn K mainGlobals "isinstance" = some none)
    (n_BadNumber : PySem.W.nsIn K mainGlobals "BadNumber" = some (some (.ref CB)))
    (x_BadNumber : PySem.W.excIn K CB [.type "ValueError", .type "Exception", .type "BaseException", .type "object"] "ValueError.__new__" = true)
    (kc_BadNumber : PySem.W.keepIn K (.ref CB) = true)
    (bc_BadNumber : PySem.W.subIn K (.ref CB) (.type "BaseException") = some true)
    (tc_BadNumber : PySem.W.typeIn K (.ref CB) = some (.type "type"))
    (n_NoAnswer : PySem.W.nsIn K mainGlobals "NoAnswer" = some (some (.ref CN)))
    (x_NoAnswer : PySem.W.excIn K CN [.type "ValueError", .type "Exception", .type "BaseException", .type "object"] "ValueError.__new__" = true)
    (kc_NoAnswer : PySem.W.keepIn K (.ref CN) = true)
    (bc_NoAnswer : PySem.W.subIn K (.ref CN) (.type "BaseException") = some true)
    (tc_NoAnswer : PySem.W.typeIn K (.ref CN) = some (.type "type"))
    (n_NotPoly : PySem.W.nsIn K mainGlobals "NotPoly" = some (some (.ref CP)))
    (x_NotPoly : PySem.W.excIn K CP [.type "ValueError", .type "Exception", .type "BaseException", .type "object"] "ValueError.__new__" = true)
    (kc_NotPoly : PySem.W.keepIn K (.ref CP) = true)
    (bc_NotPoly : PySem.W.subIn K (.ref CP) (.type "BaseException") = some true)
    (tc_NotPoly : PySem.W.typeIn K (.ref CP) = some (.type "type"))
    (n_TooLarge : PySem.W.nsIn K mainGlobals "TooLarge" = some (some (.ref CT)))
    (x_TooLarge : PySem.W.excIn K CT [.type "ValueError", .type "Exception", .type "BaseException", .type "object"] "ValueError.__new__" = true)
    (kc_TooLarge : PySem.W.keepIn K (.ref CT) = true)
    (bc_TooLarge : PySem.W.subIn K (.ref CT) (.type "BaseException") = some true)
    (tc_TooLarge : PySem.W.typeIn K (.ref CT) = some (.type "type"))
    (n_MOST_PARTS : PySem.W.nsIn K mainGlobals "MOST_PARTS" = some (some (.int 200 tm_MOST_PARTS)))
    (n_MOST_ROOT : PySem.W.nsIn K mainGlobals "MOST_ROOT" = some (some (.int 1000 tm_MOST_ROOT)))
    (n_MOST_COUNT : PySem.W.nsIn K mainGlobals "MOST_COUNT" = some (some (.int 40 tm_MOST_COUNT)))
    (kd_roots : PySem.W.nsIn K dK_roots "most" = some (some (.int 1000 uk_roots)))
    (hd_BadNumber : PySem.W.hasDictIn K CB = true)
    (ss_BadNumber : PySem.W.subIn K (.ref CB) (.ref CB) = some true)
    : ∃ fd : FuncData, (∀ (s : Shared) (v : Value), BindsTo s fd ⟨[v], []⟩ [("script", v)]) ∧ ∀ base : Heap, K.In base → base.Ns mainGlobals mg → FnG P w K mg base 6 fa fd ["script"] (spLaw K) := by
  have e := hfa.symm.trans (PySem.W.mg_of X G a_law)
  cases e
  have F_law_plain := fun_mk (st := s_law_plain) l_law_plain c_law_plain k_law_plain
  have g_law_plain := PySem.W.mg_of X G a_law_plain
  have b_law_plain := F_law_plain.binds (ps := ["cell"]) fun _ _ _ _ _ _ us hl => match us, hl with | [_], _ => rfl
  have F_law_next := fun_mk (st := s_law_next) l_law_next c_law_next k_law_next
  have g_law_next := PySem.W.mg_of X G a_law_next
  have b_law_next := F_law_next.binds (ps := ["draws"]) fun _ _ _ _ _ _ us hl => match us, hl with | [_], _ => rfl
  have F_law_draws := fun_mk (st := s_law_draws) l_law_draws c_law_draws k_law_draws
  have g_law_draws := PySem.W.mg_of X G a_law_draws
  have b_law_draws := F_law_draws.binds (ps := ["script"]) fun _ _ _ _ _ _ us hl => match us, hl with | [_], _ => rfl
  have F_is_poly := fun_mk (st := s_is_poly) l_is_poly c_is_poly k_is_poly
  have g_is_poly := PySem.W.mg_of X G a_is_poly
  have b_is_poly := F_is_poly.binds (ps := ["poly"]) fun _ _ _ _ _ _ us hl => match us, hl with | [_], _ => rfl
  have F_check_poly := fun_mk (st := s_check_poly) l_check_poly c_check_poly k_check_poly
  have g_check_poly := PySem.W.mg_of X G a_check_poly
  have b_check_poly := F_check_poly.binds (ps := ["poly"]) fun _ _ _ _ _ _ us hl => match us, hl with | [_], _ => rfl
  have F_law_cut := fun_mk (st := s_law_cut) l_law_cut c_law_cut k_law_cut
  have g_law_cut := PySem.W.mg_of X G a_law_cut
  have b_law_cut := F_law_cut.binds (ps := ["parts"]) fun _ _ _ _ _ _ us hl => match us, hl with | [_], _ => rfl
  have F_law_poly := fun_mk (st := s_law_poly) l_law_poly c_law_poly k_law_poly
  have g_law_poly := PySem.W.mg_of X G a_law_poly
  have b_law_poly := F_law_poly.binds (ps := ["draws", "most"]) fun _ _ _ _ _ _ us hl => match us, hl with | [_, _], _ => rfl
  have F_law_times := fun_mk (st := s_law_times) l_law_times c_law_times k_law_times
  have g_law_times := PySem.W.mg_of X G a_law_times
  have b_law_times := F_law_times.binds (ps := ["one", "other"]) fun _ _ _ _ _ _ us hl => match us, hl with | [_, _], _ => rfl
  have F_law_plus := fun_mk (st := s_law_plus) l_law_plus c_law_plus k_law_plus
  have g_law_plus := PySem.W.mg_of X G a_law_plus
  have b_law_plus := F_law_plus.binds (ps := ["one", "other"]) fun _ _ _ _ _ _ us hl => match us, hl with | [_, _], _ => rfl
  have F_law_value := fun_mk (st := s_law_value) l_law_value c_law_value k_law_value
  have g_law_value := PySem.W.mg_of X G a_law_value
  have b_law_value := F_law_value.binds (ps := ["poly", "x"]) fun _ _ _ _ _ _ us hl => match us, hl with | [_, _], _ => rfl
  have F_multiplied_polys := fun_mk (st := s_multiplied_polys) l_multiplied_polys c_multiplied_polys k_multiplied_polys
  have g_multiplied_polys := PySem.W.mg_of X G a_multiplied_polys
  have b_multiplied_polys := F_multiplied_polys.binds (ps := ["one", "other"]) fun _ _ _ _ _ _ us hl => match us, hl with | [_, _], _ => rfl
  have F_split_off_ := fun_mk (st := s_split_off_) l_split_off_ c_split_off_ k_split_off_
  have g_split_off_ := PySem.W.mg_of X G a_split_off_
  have b_split_off_ := F_split_off_.binds (ps := ["parts", "x"]) fun _ _ _ _ _ _ us hl => match us, hl with | [_, _], _ => rfl
  have F_value_at := fun_mk (st := s_value_at) l_value_at c_value_at k_value_at
  have g_value_at := PySem.W.mg_of X G a_value_at
  have b_value_at := F_value_at.binds (ps := ["poly", "x"]) fun _ _ _ _ _ _ us hl => match us, hl with | [_, _], _ => rfl
  have F_root_count_ := fun_mk (st := s_root_count_) l_root_count_ c_root_count_ k_root_count_
  have g_root_count_ := PySem.W.mg_of X G a_root_count_
  have b_root_count_ := F_root_count_.binds (ps := ["poly", "x"]) fun _ _ _ _ _ _ us hl => match us, hl with | [_, _], _ => rfl
  have F_roots : FunA K "roots" "roots" s_roots f_roots _ := ⟨⟨_, _, _, _, _, _, _, _, _, _, rfl, l_roots, c_roots⟩, k_roots⟩
  have g_roots := PySem.W.mg_of X G a_roots
  have F_check_count_ := fun_mk (st := s_check_count_) l_check_count_ c_check_count_ k_check_count_
  have g_check_count_ := PySem.W.mg_of X G a_check_count_
  have b_check_count_ := F_check_count_.binds (ps := ["count"]) fun _ _ _ _ _ _ us hl => match us, hl with | [_], _ => rfl
  have F_power_of_d := fun_mk (st := s_power_of_d) l_power_of_d c_power_of_d k_power_of_d
  have g_power_of_d := PySem.W.mg_of X G a_power_of_d
  have b_power_of_d := F_power_of_d.binds (ps := ["count"]) fun _ _ _ _ _ _ us hl => match us, hl with | [_], _ => rfl
  have F_falling := fun_mk (st := s_falling) l_falling c_falling k_falling
  have g_falling := PySem.W.mg_of X G a_falling
  have b_falling := F_falling.binds (ps := ["count"]) fun _ _ _ _ _ _ us hl => match us, hl with | [_], _ => rfl
  have F_rising := fun_mk (st := s_rising) l_rising c_rising k_rising
  have g_rising := PySem.W.mg_of X G a_rising
  have b_rising := F_rising.binds (ps := ["count"]) fun _ _ _ _ _ _ us hl => match us, hl with | [_], _ => rfl
  have F_by_falling := fun_mk (st := s_by_falling) l_by_falling c_by_falling k_by_falling
  have g_by_falling := PySem.W.mg_of X G a_by_falling
  have b_by_falling := F_by_falling.binds (ps := ["poly"]) fun _ _ _ _ _ _ us hl => match us, hl with | [_], _ => rfl
  have F_law_refuses := fun_mk (st := s_law_refuses) l_law_refuses c_law_refuses k_law_refuses
  have g_law_refuses := PySem.W.mg_of X G a_law_refuses
  have b_law_refuses := F_law_refuses.binds (ps := ["way", "count"]) fun _ _ _ _ _ _ us hl => match us, hl with | [_, _], _ => rfl
  have F_law := fun_mk (st := s_law) l_law c_law k_law
  have g_law := PySem.W.mg_of X G a_law
  have b_law := F_law.binds (ps := ["script"]) fun _ _ _ _ _ _ us hl => match us, hl with | [_], _ => rfl
  have z_int := PySem.W.mg_none_of X G zn_int
  have z_range := PySem.W.mg_none_of X G zn_range
  have z_len := PySem.W.mg_none_of X G zn_len
  have z_list := PySem.W.mg_none_of X G zn_list
  have z_tuple := PySem.W.mg_none_of X G zn_tuple
  have z_max := PySem.W.mg_none_of X G zn_max
  have z_enumerate := PySem.W.mg_none_of X G zn_enumerate
  have z_reversed := PySem.W.mg_none_of X G zn_reversed
  have z_all := PySem.W.mg_none_of X G zn_all
  have z_repr := PySem.W.mg_none_of X G zn_repr
  have z_isinstance := PySem.W.mg_none_of X G zn_isinstance
  have E_BadNumber : ErrC K mg "BadNumber" CB := ⟨PySem.W.mg_of X G n_BadNumber, x_BadNumber, kc_BadNumber, bc_BadNumber, tc_BadNumber⟩
  have E_NoAnswer : ErrC K mg "NoAnswer" CN := ⟨PySem.W.mg_of X G n_NoAnswer, x_NoAnswer, kc_NoAnswer, bc_NoAnswer, tc_NoAnswer⟩
  have E_NotPoly : ErrC K mg "NotPoly" CP := ⟨PySem.W.mg_of X G n_NotPoly, x_NotPoly, kc_NotPoly, bc_NotPoly, tc_NotPoly⟩
  have E_TooLarge : ErrC K mg "TooLarge" CT := ⟨PySem.W.mg_of X G n_TooLarge, x_TooLarge, kc_TooLarge, bc_TooLarge, tc_TooLarge⟩
  have m_MOST_PARTS := PySem.W.mg_of X G n_MOST_PARTS
  have m_MOST_ROOT := PySem.W.mg_of X G n_MOST_ROOT
  have m_MOST_COUNT := PySem.W.mg_of X G n_MOST_COUNT
  obtain ⟨ur, b_roots1⟩ : ∃ t, Binds K (PySem.W.fnOf "roots" "roots" (defArgs s_roots) (defBody s_roots) (defScope s_roots) .none (.ref dK_roots) dc_roots pm_roots an_roots cd_roots ct_roots) ["poly", "most"] [.int 1000 t] := by
        obtain ⟨ds, hv, hb⟩ := FunD.binds0 (K := K) (kws := [("most", .int 1000)]) (ps := ["poly", "most"]) ⟨⟨_, _, _, _, _, _, _, _, _, _, rfl, l_roots, c_roots, .inl ⟨rfl, rfl⟩, .inr ⟨dK_roots, rfl, fun q hq => by rw [List.mem_singleton.mp hq]; exact ⟨_, kd_roots, ⟨_, rfl⟩⟩⟩⟩, k_roots⟩ 1 (fun z => nomatch z) rfl
          (fun D doc pm an cdv ct us ks hl hl2 => match us, ks, hl, hl2 with | [_], [_], _, _ => ⟨_, _, _, _, _, _, rfl, rfl, rfl⟩)
        cases hv with
        | cons r1 r2 =>
          cases r2
          obtain ⟨t, rfl⟩ := r1
          exact ⟨t, hb⟩
  have bK_roots : KBn K (PySem.W.fnOf "roots" "roots" (defArgs s_roots) (defBody s_roots) (defScope s_roots) .none (.ref dK_roots) dc_roots pm_roots an_roots cd_roots ct_roots) ["poly", "most"] 1 ["most"] (fun us ws => us ++ ws) (fun vs zs => vs ++ zs) :=
    ⟨fun s us ws X l1 l2 => match us, ws, l1, l2 with | [_], [_], _, _ => .of_eq rfl, fun r1 r2 => r1.append r2⟩
  have eBB : PySem.W.exmOne K (.ref CB) (.ref CB) = some true := PySem.W.exm_ref bc_BadNumber hd_BadNumber tc_BadNumber ss_BadNumber
  have gBB := PySem.W.mg_of X G n_BadNumber
  refine ⟨PySem.W.fnOf "law" "law" (defArgs s_law) (defBody s_law) (defScope s_law) .none kV_law dc_law pm_law an_law cd_law ct_law, fun s v => .of_eq rfl, fun base _ _ => ?_⟩
  have G_law_plain := ok_plain (P := P) (w := w) (mg := mg) (base := base) (F := F_law_plain)
  have G_law_next := ok_next (P := P) (w := w) (mg := mg) (base := base) (F := F_law_next)
  have G_law_draws := ok_draws (P := P) (w := w) (mg := mg) (base := base) (F := F_law_draws) (z_range := z_range) (z_int := z_int) (G_law_plain := G_law_plain) (g_law_plain := g_law_plain) (k_law_plain := k_law_plain) (b_law_plain := b_law_plain)
  have G_is_poly := ok_is_poly (P := P) (w := w) (mg := mg) (base := base) (F := F_is_poly) (z_len := z_len) (m_MOST_PARTS := m_MOST_PARTS)
  have G_check_poly := ok_check_poly (P := P) (w := w) (mg := mg) (base := base) (F := F_check_poly) (T := E_NotPoly) (G_is_poly := G_is_poly) (g_is_poly := g_is_poly) (k_is_poly := k_is_poly) (b_is_poly := b_is_poly)
  have G_law_cut := ok_law_cut (P := P) (w := w) (mg := mg) (base := base) (F := F_law_cut) (z_len := z_len) (z_tuple := z_tuple) (z_range := z_range)
  have G_law_cutT := ok_law_cutT (P := P) (w := w) (mg := mg) (base := base) (F := F_law_cut) (z_len := z_len) (z_tuple := z_tuple) (z_range := z_range)
  have G_law_poly := ok_law_poly (P := P) (w := w) (mg := mg) (base := base) (F := F_law_poly) (z_int := z_int) (z_range := z_range) (G_law_next := G_law_next) (g_law_next := g_law_next) (k_law_next := k_law_next) (b_law_next := b_law_next) (G_law_cut := G_law_cut) (g_law_cut := g_law_cut) (k_law_cut := k_law_cut) (b_law_cut := b_law_cut)
  have G_law_times := ok_law_times (P := P) (w := w) (mg := mg) (base := base) (F := F_law_times) (z_len := z_len) (z_range := z_range) (G_law_cut := G_law_cut) (g_law_cut := g_law_cut) (k_law_cut := k_law_cut) (b_law_cut := b_law_cut)
  have G_law_plus := ok_law_plus (P := P) (w := w) (mg := mg) (base := base) (F := F_law_plus) (z_len := z_len) (z_max := z_max) (z_range := z_range) (G_law_cut := G_law_cut) (g_law_cut := g_law_cut) (k_law_cut := k_law_cut) (b_law_cut := b_law_cut)
  have G_law_value := ok_law_value (P := P) (w := w) (mg := mg) (base := base) (F := F_law_value)
  have G_multiplied_polys := ok_multiplied_polys (P := P) (w := w) (mg := mg) (base := base) (F := F_multiplied_polys) (z_len := z_len) (z_tuple := z_tuple) (z_enumerate := z_enumerate) (T := E_TooLarge) (m_MOST_PARTS := m_MOST_PARTS) (G_check_poly := G_check_poly) (g_check_poly := g_check_poly) (k_check_poly := k_check_poly) (b_check_poly := b_check_poly)
  have G_split_off_ := ok_split_off_ (P := P) (w := w) (mg := mg) (base := base) (F := F_split_off_) (z_reversed := z_reversed)
  have G_value_at := ok_value_at (P := P) (w := w) (mg := mg) (base := base) (F := F_value_at) (G_check_poly := G_check_poly) (g_check_poly := g_check_poly) (k_check_poly := k_check_poly) (b_check_poly := b_check_poly) (G_split_off_ := G_split_off_) (g_split_off_ := g_split_off_) (k_split_off_ := k_split_off_) (b_split_off_ := b_split_off_)
  have G_root_count_ := ok_root_count_ (P := P) (w := w) (mg := mg) (base := base) (F := F_root_count_) (G_split_off_ := G_split_off_) (g_split_off_ := g_split_off_) (k_split_off_ := k_split_off_) (b_split_off_ := b_split_off_)
  have G_roots := ok_roots (P := P) (w := w) (mg := mg) (base := base) (F := F_roots) (z_range := z_range) (m_MOST_ROOT := m_MOST_ROOT) (T := E_BadNumber) (T2 := E_NoAnswer) (G_check_poly := G_check_poly) (g_check_poly := g_check_poly) (k_check_poly := k_check_poly) (b_check_poly := b_check_poly) (G_root_count_ := G_root_count_) (g_root_count_ := g_root_count_) (k_root_count_ := k_root_count_) (b_root_count_ := b_root_count_)
  have G_check_count_ := ok_check_count_ (P := P) (w := w) (mg := mg) (base := base) (F := F_check_count_) (T := E_BadNumber) (m_MOST_COUNT := m_MOST_COUNT)
  have G_power_of_d := ok_power_of_d (P := P) (w := w) (mg := mg) (base := base) (F := F_power_of_d) (G_check_count_ := G_check_count_) (g_check_count_ := g_check_count_) (k_check_count_ := k_check_count_) (b_check_count_ := b_check_count_)
  have G_falling := ok_falling (P := P) (w := w) (mg := mg) (base := base) (F := F_falling) (z_range := z_range) (G_check_count_ := G_check_count_) (g_check_count_ := g_check_count_) (k_check_count_ := k_check_count_) (b_check_count_ := b_check_count_) (G_multiplied_polys := G_multiplied_polys) (g_multiplied_polys := g_multiplied_polys) (k_multiplied_polys := k_multiplied_polys) (b_multiplied_polys := b_multiplied_polys)
  have G_rising := ok_rising (P := P) (w := w) (mg := mg) (base := base) (F := F_rising) (z_range := z_range) (G_check_count_ := G_check_count_) (g_check_count_ := g_check_count_) (k_check_count_ := k_check_count_) (b_check_count_ := b_check_count_) (G_multiplied_polys := G_multiplied_polys) (g_multiplied_polys := g_multiplied_polys) (k_multiplied_polys := k_multiplied_polys) (b_multiplied_polys := b_multiplied_polys)
  have G_by_falling := ok_by_falling (P := P) (w := w) (mg := mg) (base := base) (F := F_by_falling) (z_len := z_len) (z_range := z_range) (z_list := z_list) (G_check_poly := G_check_poly) (g_check_poly := g_check_poly) (k_check_poly := k_check_poly) (b_check_poly := b_check_poly) (G_split_off_ := G_split_off_) (g_split_off_ := g_split_off_) (k_split_off_ := k_split_off_) (b_split_off_ := b_split_off_)
  have G_law_refuses := ok_law_refuses (P := P) (w := w) (mg := mg) (base := base) (F := F_law_refuses) (gc_BadNumber := gBB) (eB := eBB) (G_falling := G_falling) (g_falling := g_falling) (k_falling := k_falling) (b_falling := b_falling) (G_rising := G_rising) (g_rising := g_rising) (k_rising := k_rising) (b_rising := b_rising) (G_power_of_d := G_power_of_d) (g_power_of_d := g_power_of_d) (k_power_of_d := k_power_of_d) (b_power_of_d := b_power_of_d)
  exact ok_law (P := P) (w := w) (mg := mg) (base := base) (F := F_law) (z_repr := z_repr) (z_int := z_int) (z_range := z_range) (z_len := z_len) (z_list := z_list) (z_tuple := z_tuple) (z_all := z_all) (z_isinstance := z_isinstance) (G_law_draws := G_law_draws) (g_law_draws := g_law_draws) (k_law_draws := k_law_draws) (b_law_draws := b_law_draws) (G_law_next := G_law_next) (g_law_next := g_law_next) (k_law_next := k_law_next) (b_law_next := b_law_next) (G_law_poly := G_law_poly) (g_law_poly := g_law_poly) (k_law_poly := k_law_poly) (b_law_poly := b_law_poly) (G_law_cutT := G_law_cutT) (g_law_cut := g_law_cut) (k_law_cut := k_law_cut) (b_law_cut := b_law_cut) (G_law_times := G_law_times) (g_law_times := g_law_times) (k_law_times := k_law_times) (b_law_times := b_law_times) (G_law_plus := G_law_plus) (g_law_plus := g_law_plus) (k_law_plus := k_law_plus) (b_law_plus := b_law_plus) (G_law_value := G_law_value) (g_law_value := g_law_value) (k_law_value := k_law_value) (b_law_value := b_law_value) (G_law_refuses := G_law_refuses) (g_law_refuses := g_law_refuses) (k_law_refuses := k_law_refuses) (b_law_refuses := b_law_refuses) (G_roots := G_roots) (g_roots := g_roots) (k_roots := k_roots) (b_roots1 := b_roots1) (G_falling := G_falling) (g_falling := g_falling) (k_falling := k_falling) (b_falling := b_falling) (G_rising := G_rising) (g_rising := g_rising) (k_rising := k_rising) (b_rising := b_rising) (G_power_of_d := G_power_of_d) (g_power_of_d := g_power_of_d) (k_power_of_d := k_power_of_d) (b_power_of_d := b_power_of_d) (G_by_falling := G_by_falling) (g_by_falling := g_by_falling) (k_by_falling := k_by_falling) (b_by_falling := b_by_falling) (G_value_at := G_value_at) (g_value_at := g_value_at) (k_value_at := k_value_at) (b_value_at := b_value_at)
end T
open PySem PySem.W PyProof.Rows
set_option maxHeartbeats 0 in
theorem PySem.Challenge.cw_threadworth_k07_whole_falling_products_holds : PySem.Challenge.rw_threadworth_k07_whole_falling_products.Holds := by
  w_on; o_law; k_head; (case hw => w_witness2)
  k_fill
  refine L2.walk_ofG (l := PySem.Challenge.rw_threadworth_k07_whole_falling_products) (n := 63) (k := 6) (x := "script") (sp := fun w => T.spLaw _) rfl (by decide) rfl ⟨rfl, by decide, by decide⟩ (fun w h Y => PySem.W.kIn_of Y) ?F (fun _ _ a ns hl hS => ⟨a, ns, rfl, hS, hl, fun _ => rfl⟩)
  case F =>
    intro w mg fa h KX G hmg
    refine' T.all_mk KX G hmg ?a_law_plain ?l_law_plain ?c_law_plain ?k_law_plain ?a_law_next ?l_law_next ?c_law_next ?k_law_next ?a_law_draws ?l_law_draws ?c_law_draws ?k_law_draws ?a_is_poly ?l_is_poly ?c_is_poly ?k_is_poly ?a_check_poly ?l_check_poly ?c_check_poly ?k_check_poly ?a_law_cut ?l_law_cut ?c_law_cut ?k_law_cut ?a_law_poly ?l_law_poly ?c_law_poly ?k_law_poly ?a_law_times ?l_law_times ?c_law_times ?k_law_times ?a_law_plus ?l_law_plus ?c_law_plus ?k_law_plus ?a_law_value ?l_law_value ?c_law_value ?k_law_value ?a_multiplied_polys ?l_multiplied_polys ?c_multiplied_polys ?k_multiplied_polys ?a_split_off_ ?l_split_off_ ?c_split_off_ ?k_split_off_ ?a_value_at ?l_value_at ?c_value_at ?k_value_at ?a_root_count_ ?l_root_count_ ?c_root_count_ ?k_root_count_ ?a_roots ?l_roots ?c_roots ?k_roots ?a_check_count_ ?l_check_count_ ?c_check_count_ ?k_check_count_ ?a_power_of_d ?l_power_of_d ?c_power_of_d ?k_power_of_d ?a_falling ?l_falling ?c_falling ?k_falling ?a_rising ?l_rising ?c_rising ?k_rising ?a_by_falling ?l_by_falling ?c_by_falling ?k_by_falling ?a_law_refuses ?l_law_refuses ?c_law_refuses ?k_law_refuses ?a_law ?l_law ?c_law ?k_law ?zn_int ?zn_range ?zn_len ?zn_list ?zn_tuple ?zn_max ?zn_enumerate ?zn_reversed ?zn_all ?zn_repr ?zn_isinstance ?n_BadNumber ?x_BadNumber ?kc_BadNumber ?bc_BadNumber ?tc_BadNumber ?n_NoAnswer ?x_NoAnswer ?kc_NoAnswer ?bc_NoAnswer ?tc_NoAnswer ?n_NotPoly ?x_NotPoly ?kc_NotPoly ?bc_NotPoly ?tc_NotPoly ?n_TooLarge ?x_TooLarge ?kc_TooLarge ?bc_TooLarge ?tc_TooLarge ?n_MOST_PARTS ?n_MOST_ROOT ?n_MOST_COUNT ?kd_roots ?hd_BadNumber ?ss_BadNumber
    (case a_law_plain => k_is); (case l_law_plain => k_is); (case c_law_plain => k_is); (case k_law_plain => k_is); (case a_law_next => k_is); (case l_law_next => k_is); (case c_law_next => k_is); (case k_law_next => k_is)
    (case a_law_draws => k_is); (case l_law_draws => k_is); (case c_law_draws => k_is); (case k_law_draws => k_is); (case a_is_poly => k_is); (case l_is_poly => k_is); (case c_is_poly => k_is); (case k_is_poly => k_is)
    (case a_check_poly => k_is); (case l_check_poly => k_is); (case c_check_poly => k_is); (case k_check_poly => k_is); (case a_law_cut => k_is); (case l_law_cut => k_is); (case c_law_cut => k_is); (case k_law_cut => k_is)
    (case a_law_poly => k_is); (case l_law_poly => k_is); (case c_law_poly => k_is); (case k_law_poly => k_is); (case a_law_times => k_is); (case l_law_times => k_is); (case c_law_times => k_is); (case k_law_times => k_is)
    (case a_law_plus => k_is); (case l_law_plus => k_is); (case c_law_plus => k_is); (case k_law_plus => k_is); (case a_law_value => k_is); (case l_law_value => k_is); (case c_law_value => k_is); (case k_law_value => k_is)
    (case a_multiplied_polys => k_is); (case l_multiplied_polys => k_is); (case c_multiplied_polys => k_is); (case k_multiplied_polys => k_is); (case a_split_off_ => k_is); (case l_split_off_ => k_is); (case c_split_off_ => k_is); (case k_split_off_ => k_is)
    (case a_value_at => k_is); (case l_value_at => k_is); (case c_value_at => k_is); (case k_value_at => k_is); (case a_root_count_ => k_is); (case l_root_count_ => k_is); (case c_root_count_ => k_is); (case k_root_count_ => k_is)
    (case a_roots => k_is); (case l_roots => k_is); (case c_roots => k_is); (case k_roots => k_is); (case a_check_count_ => k_is); (case l_check_count_ => k_is); (case c_check_count_ => k_is); (case k_check_count_ => k_is)
    (case a_power_of_d => k_is); (case l_power_of_d => k_is); (case c_power_of_d => k_is); (case k_power_of_d => k_is); (case a_falling => k_is); (case l_falling => k_is); (case c_falling => k_is); (case k_falling => k_is)
    (case a_rising => k_is); (case l_rising => k_is); (case c_rising => k_is); (case k_rising => k_is); (case a_by_falling => k_is); (case l_by_falling => k_is); (case c_by_falling => k_is); (case k_by_falling => k_is)
    (case a_law_refuses => k_is); (case l_law_refuses => k_is); (case c_law_refuses => k_is); (case k_law_refuses => k_is); (case a_law => k_is); (case l_law => k_is); (case c_law => k_is); (case k_law => k_is)
    (case zn_int => k_is); (case zn_range => k_is); (case zn_len => k_is); (case zn_list => k_is); (case zn_tuple => k_is); (case zn_max => k_is); (case zn_enumerate => k_is); (case zn_reversed => k_is)
    (case zn_all => k_is); (case zn_repr => k_is); (case zn_isinstance => k_is); (case n_BadNumber => k_is); (case x_BadNumber => k_exc); (case kc_BadNumber => k_is); (case bc_BadNumber => k_is); (case tc_BadNumber => k_is)
    (case n_NoAnswer => k_is); (case x_NoAnswer => k_exc); (case kc_NoAnswer => k_is); (case bc_NoAnswer => k_is); (case tc_NoAnswer => k_is); (case n_NotPoly => k_is); (case x_NotPoly => k_exc); (case kc_NotPoly => k_is)
    (case bc_NotPoly => k_is); (case tc_NotPoly => k_is); (case n_TooLarge => k_is); (case x_TooLarge => k_exc); (case kc_TooLarge => k_is); (case bc_TooLarge => k_is); (case tc_TooLarge => k_is); (case n_MOST_PARTS => k_is)
    (case n_MOST_ROOT => k_is); (case n_MOST_COUNT => k_is); (case kd_roots => k_is); (case hd_BadNumber => k_is); (case ss_BadNumber => first | rfl | k_is)
