import PyProof.Rows.All
import Wide.All
import OpenK.AllK
import Wide.FinOn
import HandS.ForMost
import HandS.IsInst
import HandS.Zip
import HandS.Walk
import HandS.Exc
import HandS.Wide
import HandS.SortKw
import KE.GoesMore
import KE.GoesEnum
import KE.DataMinMax
import HandS.TupAny
import KE.GoesZip
import KE.KDictZip
import HandS.Zip0
import HandS.ListItems
import HandS.ExcOwn
import HandS.TryOnly
import HandS.WordsExc
import PySem.Challenge.RW_haulropes_k26_whole_ropes_that_are_impli
import HandS.Deep
import HandS.TupMul
import HandS.RevRange
set_option Elab.async false
set_option linter.all false
set_option maxRecDepth 100000
/-! Readings by rewriting: each word of a reading, applied, as an equation; then simp does the walking. -/
namespace Hx
open PySem PySem.Spec PyProof.Rows L2

section eqs
variable {K : PySem.W.Frag} {σ : L2.St} {H : Hp} {Q : VK} {QB : Bool → Hp → Prop} {QL : List V → Hp → Prop} {D : Ends} {i j n : Nat} {v : V} {ta tb tc te : TE} {tA tB' tt : TT} {a : TA} {r r' : R2} {t u : TS} {g : TG} {gs : TGs}
theorem q_var : tVar i σ H Q = ∃ v, σ[i]? = some (some v) ∧ Q v H := rfl
theorem q_c : tC v σ H Q = Q v H := rfl
theorem q_op : tOp r ta tb σ H Q = ta σ H fun x H1 => tb σ H1 fun y H2 => r x y H2 Q := rfl
theorem q_un {ru : V → Hp → VK → Prop} : tUn ru ta σ H Q = ta σ H fun x H1 => ru x H1 Q := rfl
theorem q_rI {C : Int → Int → Prop} {f : Int → Int → V} {x y : Int} : rI C f (.int x) (.int y) H Q = (C x y ∧ Q (f x y) H) := by
  apply propext; constructor
  · rintro ⟨_, _, e1, e2, c, q⟩; cases e1; cases e2; exact ⟨c, q⟩
  · rintro ⟨c, q⟩; exact ⟨_, _, rfl, rfl, c, q⟩
theorem q_rI0 {f : Int → Int → V} {x y : Int} : rI0 f (.int x) (.int y) H Q = Q (f x y) H := by
  apply propext; constructor
  · rintro ⟨_, _, e1, e2, q⟩; cases e1; cases e2; exact q
  · intro q; exact ⟨_, _, rfl, rfl, q⟩
theorem q_rU {f : Int → V} {x : Int} : rU f (.int x) H Q = Q (f x) H := by
  apply propext; constructor
  · rintro ⟨_, e1, q⟩; cases e1; exact q
  · intro q; exact ⟨_, rfl, q⟩
theorem q_rEq {x y : V} : rEq x y H Q = (scal x y = true ∧ Q (.bl (decide (x = y))) H) := rfl
theorem q_rNe {x y : V} : rNe x y H Q = (scal x y = true ∧ Q (.bl (!decide (x = y))) H) := rfl
theorem q_test : tTest te σ H QB = te σ H fun x H' => ∃ k, x = .bl k ∧ QB k H' := rfl
theorem q_tB : L2.tB te σ H QB = te σ H fun x H' => ∃ k, x = .bl k ∧ QB k H' := rfl
theorem q_and : tAnd tA tB' σ H QB = tA σ H fun c H1 => if c = true then tB' σ H1 QB else QB false H1 := rfl
theorem q_or : tOr tA tB' σ H QB = tA σ H fun c H1 => if c = true then QB true H1 else tB' σ H1 QB := rfl
theorem q_not : tNot tA σ H QB = tA σ H fun c H1 => QB (!c) H1 := rfl
theorem q_andV : tAndV ta tb σ H Q = ta σ H fun x H1 => ∃ c, x = .bl c ∧ if c = true then tb σ H1 Q else Q (.bl false) H1 := rfl
theorem q_orV : tOrV ta tb σ H Q = ta σ H fun x H1 => ∃ c, x = .bl c ∧ if c = true then Q (.bl true) H1 else tb σ H1 Q := rfl
theorem q_notV : tNotV ta σ H Q = ta σ H fun x H1 => ∃ c, x = .bl c ∧ Q (.bl (!c)) H1 := rfl
theorem q_if : tIf tA ta tb σ H Q = tA σ H fun c H1 => if c = true then ta σ H1 Q else tb σ H1 Q := rfl
theorem q_isN : tIsN ta σ H Q = ta σ H fun x H1 => Q (.bl (decide (x = .non))) H1 := rfl
theorem q_notN : tNotN ta σ H Q = ta σ H fun x H1 => Q (.bl (!decide (x = .non))) H1 := rfl
theorem q_chain : tChain r r' ta tb tc σ H Q = ta σ H fun x H1 => tb σ H1 fun y H2 => r x y H2 fun z H3 => ∃ k, z = .bl k ∧ (if k = true then tc σ H3 fun w' H4 => r' y w' H4 Q else Q (.bl false) H3) := rfl
theorem q_next : tNext D σ H = D.nx σ H := rfl
theorem q_seq : tSeq t u D σ H = t { D with nx := u D } σ H := rfl
theorem q_break : tBreak D σ H = D.bk σ H := rfl
theorem q_cont : tCont D σ H = D.ct σ H := rfl
theorem q_drop : tDrop te D σ H = te σ H fun _ H1 => D.nx σ H1 := rfl
theorem q_ret : tRet te D σ H = te σ H D.rt := rfl
theorem q_retN : tRetN D σ H = D.rt .non H := rfl
theorem q_ifS : tIfS tA t u D σ H = tA σ H fun b H1 => if b = true then t D σ H1 else u D σ H1 := rfl
theorem q_never : tNever D σ H = False := rfl
theorem q_gN {Qg : L2.St → Hp → Prop} : gName i v σ H Qg = Qg (σ.set i (some v)) H := rfl
theorem q_gNil {Qg : L2.St → Hp → Prop} : gNil [] σ H Qg = Qg σ H := by
  apply propext; exact ⟨fun h => h.2, fun h => ⟨rfl, h⟩⟩
theorem q_gCons {Qg : L2.St → Hp → Prop} {vs : List V} : gCons g gs (v :: vs) σ H Qg = g v σ H fun σ' H' => gs vs σ' H' Qg := by
  apply propext; constructor
  · rintro ⟨_, _, e, q⟩; cases e; exact q
  · intro q; exact ⟨_, _, rfl, q⟩
theorem q_gTup {Qg : L2.St → Hp → Prop} : gTup K n gs v σ H Qg = ∃ a xs, v = .ref a ∧ SqT K H a xs ∧ xs.length = n ∧ gs xs σ H Qg := rfl
theorem q_gSub {Qg : L2.St → Hp → Prop} {ts : TSet} : gSub ta tb ts v σ H Qg = ta σ H fun o H1 => tb σ H1 fun i H2 => ts o i v H2 fun H3 => Qg σ H3 := rfl
theorem q_asg : tAsg te g D σ H = te σ H fun x H1 => g x σ H1 D.nx := rfl
theorem q_par : tPar i j a D σ H = a σ H fun vs H1 => ∃ v w, vs = [v, w] ∧ D.nx ((σ.set i (some v)).set j (some w)) H1 := rfl
theorem q_aug {ti : TIp} : tAug i te ti D σ H = ∃ x, σ[i]? = some (some x) ∧ te σ H fun y H1 => ti x y H1 fun z H2 => D.nx (σ.set i (some z)) H2 := rfl
theorem q_nil : tNil σ H QL = QL [] H := rfl
theorem q_cons : tCons te a σ H QL = te σ H fun x H1 => a σ H1 fun xs H2 => QL (x :: xs) H2 := rfl
theorem q_tup : tTup a σ H Q = a σ H fun xs H1 => xs.length ≤ sizeLine ∧ ∀ p, H1 p = none → Q (.ref p) (upd H1 p (.tup xs)) := rfl
theorem q_lst : tLst a σ H Q = a σ H fun xs H1 => xs.length ≤ sizeLine ∧ ∀ p, H1 p = none → Q (.ref p) (upd H1 p (.lst xs)) := rfl
theorem q_call {sp : Sp} {dvs : List V} {E : XK} : tCall sp dvs E a σ H Q = a σ H fun vs H1 => sp (vs ++ dvs) H1 Q E := rfl
theorem q_cb {rc : List V → Hp → VK → Prop} : tCB rc a σ H Q = a σ H fun vs H1 => rc vs H1 Q := rfl
theorem q_noPart {Qo : Option Int → Hp → Prop} : tNoPart σ H Qo = Qo none H := rfl
theorem q_part {Qo : Option Int → Hp → Prop} : tPart te σ H Qo = te σ H fun x H1 => ∃ i, x = .int i ∧ Qo (some i) H1 := rfl
theorem q_sl {rs : V → Option Int → Option Int → Hp → VK → Prop} {tl th : TO} : tSl rs te tl th σ H Q = te σ H fun x H1 => tl σ H1 fun l H2 => th σ H2 fun u H3 => rs x l u H3 Q := rfl
theorem q_bm0 {T : String} {rm : V → List V → Hp → VK → Prop} : tBM0 K T rm te σ H Q = te σ H fun x H1 => tyV K T x H1 ∧ rm x [] H1 Q := rfl
theorem q_bm {T : String} {rm : V → List V → Hp → VK → Prop} : tBM K T rm te a σ H Q = te σ H fun x H1 => tyV K T x H1 ∧ a σ H1 fun xs H2 => rm x xs H2 Q := rfl
theorem q_yes : tYes σ H QB = QB true H := rfl
/-- what a for asks of a walk -/
def ForW (J : It) (g : TG) (tb : TS) (D : Ends) (σ : L2.St) (H : Hp) : Prop := ∃ W : Nat → Nat → L2.St → Hp → Prop, (∃ m, W 0 m σ H) ∧ ∀ i m σ H, W i m σ H →
  (J.stop i H ∧ D.nx σ H) ∨ (J.go i H ∧ ∃ N : L2.St → Hp → Prop, (∀ σ' H', N σ' H' → ∃ m', m' < m ∧ W (i + 1) m' σ' H') ∧ ∀ x H', J.yld i H x H' → g x σ H' fun σ2 H2 => tb { D with nx := N, ct := N, bk := D.nx } σ2 H2)
theorem q_for {wi : TI} : tFor wi g t D σ H = wi σ H fun J H1 => ForW J g t D σ H1 := rfl
/-- what a comprehension asks of a walk, its new list at p -/
def LcW (J : It) (g : TG) (tt : TT) (te : TE) (vs : List Nat) (p : Addr) (σ : L2.St) (H1 : Hp) (Qd : Hp → Prop) : Prop := ∃ W : Nat → Nat → Hp → Prop, (∃ m, W 0 m (upd H1 p (.lst []))) ∧ ∀ i m H, W i m H →
  (J.stop i H ∧ Qd H) ∨ (J.go i H ∧ ∃ Nx : Hp → Prop, (∀ H', Nx H' → ∃ m', m' < m ∧ W (i + 1) m' H') ∧ ∀ x H', J.yld i H x H' → g x (wipe σ vs) H' fun σ2 H2 => wipe σ2 vs = wipe σ vs ∧ tt σ2 H2 fun b H3 =>
    if b = true then te σ2 H3 fun y H4 => ∃ acc, H4 p = some (.lst acc) ∧ acc.length < sizeLine ∧ Nx (upd H4 p (.lst (acc ++ [y]))) else Nx H3)
theorem q_lc {wi : TI} {vs : List Nat} : tLc wi g tt te vs σ H Q = wi σ H fun J H1 => ∀ p, H1 p = none → LcW J g tt te vs p σ H1 (Q (.ref p)) := rfl
theorem q_iList {R : It → Hp → Prop} : iList K te σ H R = te σ H fun x H1 => ∃ a, x = .ref a ∧ (∃ xs, SqL K H1 a xs) ∧ R (Itl K a) H1 := rfl
theorem q_iTup {R : It → Hp → Prop} : iTup K te σ H R = te σ H fun x H1 => ∃ a, x = .ref a ∧ (∃ xs, SqT K H1 a xs) ∧ R (Itt K a) H1 := rfl
theorem q_iRng1 {R : It → Hp → Prop} : iRng1 a σ H R = a σ H fun vs H1 => ∃ j : Int, vs = [.int j] ∧ -(2 ^ 62) ≤ j ∧ j < 2 ^ 62 ∧ R (Itr 0 j.toNat) H1 := rfl
theorem q_iEnum {R : It → Hp → Prop} : iEnum K a σ H R = a σ H fun vs H1 => ∃ b xs, vs = [.ref b] ∧ SqL K H1 b xs ∧ R (Ite K b) H1 := rfl
theorem q_iRng2 {R : It → Hp → Prop} : iRng2 a σ H R = a σ H fun vs H1 => ∃ i j : Int, vs = [.int i, .int j] ∧ (-(2 ^ 62) ≤ i ∧ i < 2 ^ 62 ∧ -(2 ^ 62) ≤ j ∧ j < 2 ^ 62) ∧ R (Itr i (j - i).toNat) H1 := rfl
theorem q_iZipA {R : It → Hp → Prop} : RZ.iZipA K a σ H R = a σ H fun vs H1 => ∃ b c xs ys, vs = [.ref b, .ref c] ∧ ((SqL K H1 b xs ∧ SqL K H1 c ys ∧ R (Itz K b c) H1) ∨ (SqT K H1 b xs ∧ SqT K H1 c ys ∧ R (RZ.ItzT K b c) H1)) := rfl
theorem q_ipI {f : Int → Int → Int} {x y : Int} : ipI f (.int x) (.int y) H Q = Q (.int (f x y)) H := by
  apply propext; constructor
  · rintro ⟨_, _, e1, e2, q⟩; cases e1; cases e2; exact q
  · intro q; exact ⟨_, _, rfl, rfl, q⟩
theorem q_ckw {rk : List V → List V → Hp → VK → Prop} {ak : TA} : tCKw rk a ak σ H Q = a σ H fun vs H1 => ak σ H1 fun zs H2 => rk vs zs H2 Q := rfl
end eqs
end Hx

set_option Elab.async false
set_option linter.all false
set_option maxRecDepth 100000
set_option maxHeartbeats 4000000
/-! Rules that the layer lacks: enumerate of a tuple. -/
namespace Hx
open PySem PySem.Spec PyProof.Rows L2

theorem new_enum1 {v : Value} {ob : Obj} {Ho : Heap → Prop} (Bg : Begins v ob Ho) :
    Meets (Builtin.«enumerate.__new__» ⟨[.type "enumerate", v], []⟩) fun _ R s => Ho s.heap ∧
      R (.ok (.ret (.ref (s.heap.push ob).objs.size)))
        { s with heap := Heap.push (s.heap.push ob) { cls := .type "enumerate", data := .fields #[.none, .bool false, .ref s.heap.objs.size, rawInt 0, .none, .none] } } :=
  .of_wp fun pr ww AA R s hh => by
    obtain ⟨hp, g, d, tk, os⟩ := s
    obtain ⟨hv, hR⟩ := hh
    have hsub := sub_enumerate
    have begin' : ∀ {AA' : Around} {EE QQ : Value → Shared → Prop}, QQ (.ref hp.objs.size) ⟨hp.push ob, g, d, tk, os⟩ → wpAny (model pr ww) AA' (pyIter v) QQ EE ⟨hp, g, d, tk, os⟩ :=
      fun qq => Bg.iter pr ww _ _ ⟨hp, g, d, tk, os⟩ _ hv qq
    wp_walk using begin'
    refine wpAny_stack_any fun st => wpAny_pure ?_
    split
    · rename_i c _ _ _ _ _
      cases (c == Value.type "enumerate") <;>
      · wp_walk using begin'
        exact ⟨_, rfl, hR⟩
    · wp_walk using begin'
      exact ⟨_, rfl, hR⟩

theorem enum_of_tuple {prog : Program} {w : World} {A : Around} {E : Value → Shared → Prop} {s : Shared} {t : Addr} {its : Array Value} {Q : Value → Shared → Prop} (hT : s.heap.IsTuple t its)
    (h : ∀ h', IsEnum h' (s.heap.objs.size + 1) s.heap.objs.size 0 .none → h'.IsTupleIter s.heap.objs.size t 0 → (∀ b o, s.heap.get? b = some o → h'.get? b = some o) → Q (.ref (s.heap.objs.size + 1)) { s with heap := h' }) :
    wpAny (model prog w) A (call (.type "enumerate") [.ref t]) Q E s := by
  refine callType_new F.called_enumerate (by decide) (F.typeCall_enumerate_1 _) (F.newCall_enumerate_1 _) (fun ob => F.args_object_init_2 ob _) F.entry_enumerate_new (new_enum1 (begins_tuple t its)) ⟨hT, ?_⟩
  generalize hob : ({ cls := .type "tuple_iterator", data := .fields #[.ref t, .int 0 0] } : Obj) = ob
  have hfr : ob.isFreed = false := by rw [← hob]; rfl
  have hz : (s.heap.push ob).objs.size = s.heap.objs.size + 1 := Heap.size_push ..
  show _ ∧ _
  rw [hz]
  generalize hoe : ({ cls := .type "enumerate", data := .fields #[.none, .bool false, .ref s.heap.objs.size, rawInt 0, .none, .none] } : Obj) = oe
  have he : ((s.heap.push ob).push oe).get? (s.heap.objs.size + 1) = some oe := by
    rw [← hz]
    exact Heap.get?_push_size _ (by rw [← hoe]; rfl)
  have hi : ((s.heap.push ob).push oe).get? s.heap.objs.size = some ob := Heap.get?_push_of_some _ (Heap.get?_push_size _ hfr)
  refine ⟨⟨_, he, by rw [← hoe]⟩, h _ (by rw [← hoe] at he ⊢; exact he) ⟨ob, hi, by rw [← hob], by rw [← hob]; rfl⟩ fun b o q => Heap.get?_push_of_some _ (Heap.get?_push_of_some _ q)⟩

/-- the tuple at a, each item in a new pair with its number -/
def IteT (K : PySem.W.Frag) (a : Addr) : It where
  go := fun i H => ∃ (xs : List V) (x : V), SqT K H a xs ∧ xs[i]? = some x
  yld := fun i H v H' => ∃ T x, v = .ref T ∧ H T = none ∧ H' = upd H T (.tup [.int (i : Nat), x]) ∧ ∀ xs, SqT K H a xs → xs[i]? = some x
  stop := fun i H => ∃ xs : List V, SqT K H a xs ∧ xs.length ≤ i
theorem turn_enumT {P : Program} {w : World} {K : PySem.W.Frag} {es : List Expr} {k : Nat} {ps : Pos} (a e it : Addr) (hae : e ≠ a) (hia : a ≠ it) :
    Turn P w K (.Tuple es k ps) (IteT K a) [e, it] e fun i h => (∃ old, IsEnum h e it ((i : Nat) : Int) old) ∧ h.IsTupleIter it a i ∧ e ≠ it where
  mem := List.mem_cons_self
  obj := by
    rintro i h ⟨⟨old, he⟩, ⟨o, ho, hc, hd⟩, _⟩ b hb
    rcases List.mem_cons.mp hb with rfl | hb
    · exact ⟨_, he, fun v q => nomatch q⟩
    · cases List.mem_singleton.mp hb
      exact ⟨o, ho, fun v q => by rw [hd] at q; cases q⟩
  keep := by
    rintro i h h' ⟨⟨old, he⟩, hi, hne⟩ kk
    exact ⟨⟨old, kk e List.mem_cons_self _ he⟩, hi.at fun o q => kk it (List.mem_cons_of_mem _ List.mem_cons_self) o q, hne⟩
  item := by
    rintro X rfl rfl rfl hc i pins s σ H E I hf ⟨⟨old, he⟩, hit, hne⟩ ⟨xs, x, hq, hx⟩
    obtain ⟨its, rv, p, hz⟩ := I.tuple hq
    obtain ⟨u, hu, ru⟩ := rv.get hx
    have hel : e < s.heap.objs.size := Heap.lt_size he
    have hil : it < s.heap.objs.size := by obtain ⟨_, q, _⟩ := hit; exact Heap.lt_size q
    have hlt : i < its.toArray.size := by
      have q := (List.getElem?_eq_some_iff.mp hu).1
      simpa using q
    have hh : X.A.in1.handled = none := I.ok.hd hc
    refine wpAny_pyNext_enum_itemD (Draws.tuple hh it a hia its.toArray) he ⟨hit, p⟩ hlt hne (by simp [hne, hae]) fun x' h' tk hx' ho hit' hT hsz hk => ?_
    have ex : x' = u := by
      have q : its.toArray[i]? = some x' := hx'
      have q2 : its[i]? = some x' := by simpa using q
      rw [hu] at q2
      exact (Option.some.inj q2).symm
    subst ex
    refine ⟨_, rfl, wpAny_letOwnedTupleGo_enum (s := { s with heap := h', toks := tk + 1 }) ho fun h2 he2 sb => ?_⟩
    have hn : H s.heap.objs.size = none := I.hok.fresh (Nat.le_refl _)
    have hT2 : h2.get? s.heap.objs.size = some { cls := .type "tuple", data := .seq #[.int i tk, x'] } := (sb.2 _ (Nat.ne_of_gt hel)).trans hT
    have new : ObjOk X.prog X.w (upd H s.heap.objs.size (.tup [.int (i : Nat), x])) h2 s.heap.objs.size (.tup [.int (i : Nat), x]) := by
      refine ⟨?_, [.int i tk, x'], .cons ⟨_, rfl⟩ (.cons ru .nil), ⟨_, hT2, rfl, _, rfl⟩⟩
      show 2 ≤ sizeLine
      decide
    have kp : ∀ b ob, b ∉ [e, it] → s.heap.get? b = some ob → h2.get? b = some ob := fun b ob hb q => by
      have b1 : b ≠ e := fun z => hb (by simp [z])
      have b2 : b ≠ it := fun z => hb (by simp [z])
      exact (sb.2 b b1).trans (hk b ob b1 b2 q)
    have J := I.turnedNew (t' := tk + 1) kp hf (Nat.le_refl _) new
    refine ⟨.ref s.heap.objs.size, _, J, rfl, ⟨_, x, rfl, hn, rfl, fun ys hy => ?_⟩, ⟨⟨x', ?_⟩, ?_, hne⟩, fun b hb => ?_⟩
    · rw [I.tuple_inj hy hq]
      exact hx
    · have e1 : ((i + 1 : Nat) : Int) = (i : Int) + 1 := by omega
      rw [e1]
      exact he2
    · exact hit'.1.at fun o q => (sb.2 it (Ne.symm hne)).trans q
    · have hb' : b < s.heap.objs.size := by
        rcases List.mem_cons.mp hb with rfl | hb
        · exact hel
        · cases List.mem_singleton.mp hb
          exact hil
      rw [upd_ne (Nat.ne_of_lt hb')]
      exact (hf b hb).1
  done := by
    rintro X rfl rfl rfl hc i pins s σ H E I hf ⟨⟨old, he⟩, hit, hne⟩ ⟨xs, hq, hx⟩
    obtain ⟨its, rv, p, hz⟩ := I.tuple hq
    obtain ⟨f0, f1, f2, f3, f4, f5⟩ := hf it (List.mem_cons_of_mem _ List.mem_cons_self)
    have hl := rv.length
    have hh : X.A.in1.handled = none := I.ok.hd hc
    have D : Draws X.prog X.w X.A.in1 it [it, a] i (fun _ _ => False) (fun j h => j = i ∧ h.IsTupleIter it a i ∧ h.IsTuple a its.toArray) :=
      { live := fun j h st => let ⟨o, ho, _⟩ := st.2.1; ⟨o, ho⟩
        frame := fun j h h' st hk => ⟨st.1, st.2.1.at fun o e => hk it (by simp) o e, st.2.2.at fun o e => hk a (by simp) o e⟩
        item := fun j s Q E hj st q => absurd st.1 (Nat.ne_of_lt hj)
        done := fun s Q E st hE => wpAny_nextOf_tuple_end hh st.2.1 st.2.2 (by simp; omega) hE }
    exact wpAny_pyNext_enum_endD D he ⟨rfl, hit, p⟩ fun h' eb => ⟨rfl, I.turned (t' := s.toks) (fun b o hb q => eb b o hb q) f0 f1 f3 f4 f5⟩
  self := fun A i s Q E st h => wpAny_pyIter_enum st.1.choose_spec h
def iEnumT (K : PySem.W.Frag) (ta : TA) : TI := fun σ H R => ta σ H fun vs H1 => ∃ a, vs = [.ref a] ∧ (∃ xs, SqT K H1 a xs) ∧ R (IteT K a) H1
theorem q_iEnumT {K : PySem.W.Frag} {ta : TA} {σ : L2.St} {H : Hp} {R : It → Hp → Prop} : iEnumT K ta σ H R = ta σ H fun vs H1 => ∃ a, vs = [.ref a] ∧ (∃ xs, SqT K H1 a xs) ∧ R (IteT K a) H1 := rfl
theorem pi_enumT {X : Cx} {ex : Expr} {ta : TA} {p p1 p2 : Pos} {es : List Expr} {k : Nat} (hg : Gl X "enumerate") (hm : X.mg "enumerate" = none) (ha : PA X [ex] ta)
    (hs : starEach [ex] X.env = [(false, eval ex X.env)] := by rfl) : PI X (.Tuple es k p2) (.Call (.Name "enumerate" p) [ex] [] p1) (iEnumT X.K ta) := by
  refine ⟨fun pins s σ H R I h => ?_⟩
  refine Call_ (ld_blt I hg hm boot_enumerate (PyProof.Rows.callWith_type1 (thn (ha.run p1 pins s σ H _ I h) ?_) hs rfl))
  rintro us s1 ⟨vs, H1, I1, r1, a, rfl, ⟨xs, hq⟩, q⟩
  cases r1 with
  | cons r rr =>
    cases rr
    cases r
    obtain ⟨its, rv, pt, hz⟩ := I1.tuple hq
    have hal : a < s1.heap.objs.size := pt.lt
    refine enum_of_tuple pt fun h' he hit hk => wpAny_pyIter_enum he ?_
    have I2 : Inv X pins σ H1 { s1 with heap := h' } := I1.kept (t' := s1.toks) hk
    refine ⟨_, _, _, _, H1, rfl, I2, turn_enumT a (s1.heap.objs.size + 1) s1.heap.objs.size (Nat.ne_of_gt (Nat.lt_succ_of_lt hal)) (Nat.ne_of_lt hal), ⟨⟨.none, he⟩, hit, Nat.succ_ne_self _⟩, fun b hb => ?_, q⟩
    have hle : s1.heap.objs.size ≤ b := by
      rcases List.mem_cons.mp hb with rfl | hb
      · omega
      · cases List.mem_singleton.mp hb
        omega
    exact I1.fpOk hle (I1.hok.fresh hle)
theorem walk_enumT {K : PySem.W.Frag} {a : Addr} {xs : List V} : Walk (IteT K a) xs.length (fun H => SqT K H a xs) (YPair (fun i => some (.int (i : Nat))) (fun i => xs[i]?)) where
  goes := fun i _ hi q => ⟨xs, xs[i], q, List.getElem?_eq_getElem hi⟩
  stops := fun _ q => ⟨xs, q, Nat.le_refl _⟩
  yields := by
    rintro i H v H' _ q ⟨T, x, h1, h2, h3, h4⟩
    exact ⟨T, .int (i : Nat), x, h1, h2, h3, rfl, h4 xs q⟩

/-! min(list of ints, default=None) -/
def rMinD (K : PySem.W.Frag) : List V → List V → Hp → VK → Prop := fun vs zs H Q => ∃ (a : Addr) (ns : List Int), vs = [.ref a] ∧ zs = [.non] ∧ SqL K H a (ns.map V.int) ∧
  (ns = [] → Q .non H) ∧ (∀ n r, ns = n :: r → Q (.int (r.foldl min n)) H)
theorem dpAll_ints (K : PySem.W.Frag) (H : Hp) : ∀ ns : List Int, DpAll K H (ns.map V.int) (ns.map PyData.int)
  | [] => .nil
  | n :: r => .cons (.int n) (dpAll_ints K H r)
theorem depth_ints : ∀ ns : List Int, PyData.depthAll (ns.map PyData.int) = 0
  | [] => rfl
  | n :: r => by
    have e := depth_ints r
    simp only [List.map_cons, PyData.depthAll, PyData.depth, e]
    rfl
theorem alike_ints (ns : List Int) : PySem.W.AlikeAll (ns.map PyData.int) := by
  refine ⟨fun x hx y hy => ?_, fun x hx => ?_⟩
  · obtain ⟨i, _, rfl⟩ := List.mem_map.mp hx
    obtain ⟨j, _, rfl⟩ := List.mem_map.mp hy
    rfl
  · obtain ⟨i, _, rfl⟩ := List.mem_map.mp hx
    intro h
    cases h
theorem call_minD {X : Cx} (hc : X.calm = true) (hu : X.A.units + 64 < cLine) : CallRK X (.builtin "min") [Str.ofString "default"] (rMinD X.K) := by
  rintro pins s σ H xs zs us ws Q I r1 r2 ⟨a, ns, rfl, rfl, hs, h0, h1⟩
  obtain ⟨its, rv, hl, _⟩ := I.list hs
  cases r1 with
  | cons r rr =>
    cases rr
    cases r
    cases r2 with
    | cons q qq =>
      cases qq
      cases (show _ = Value.none from q)
      obtain ⟨as, hr⟩ := Dp.readsAll I _ _ _ (dpAll_ints X.K H ns) rv
      have hd : X.A.units + 1 + PyData.depthAll (ns.map PyData.int) < cLine := by
        rw [depth_ints]
        omega
      refine PySem.W.min_list_default (xs := ns.map PyData.int) (I.ok.hd hc) hl.isList hr (alike_ints ns) hd (fun e h' tk hk => ?_) (fun y ys i v h' tk bs e hv hrd hk => ?_)
      · have e0 : ns = [] := List.map_eq_nil_iff.mp e
        exact ⟨.non, H, I.kept hk, rfl, h0 e0⟩
      · cases ns with
        | nil => cases e
        | cons n r =>
          cases e
          rw [PySem.W.minD_ints] at hrd
          refine ⟨.int (r.foldl min n), H, I.kept hk, ?_, h1 n r rfl⟩
          cases hrd
          exact ⟨_, rfl⟩
end Hx

set_option Elab.async false
set_option linter.all false
set_option maxRecDepth 100000
set_option maxHeartbeats 4000000
namespace Hx
open PySem PySem.Spec PyProof.Rows L2
/-! A def of the text that stands behind the top; a def that keeps a promise, for its callers. -/
structure Here (K : PySem.W.Frag) (mg : Str → Option Value) (x : Str) (st : Stmt) : Prop where
  ex : ∃ (f : Addr) (fd : FuncData), Fun K x x st f fd ∧ mg x = some (.ref f)
structure Df (P : Program) (w : World) (K : PySem.W.Frag) (mg : Str → Option Value) (base : Heap) (CX : CXT) (x : Str) (k : Nat) (ps : List Str) (sp : Sp) : Prop where
  ex : ∃ (f : Addr) (fd : FuncData), FnOk P w K mg base CX k f fd ps sp ∧ mg x = some (.ref f) ∧ PySem.W.keepIn K (.ref f) = true ∧ Binds K fd ps []
section
variable {P : Program} {w : World} {K : PySem.W.Frag} {mg : Str → Option Value} {base : Heap}
theorem Here.df {x : Str} {st : Stmt} {N ps : List Str} {k : Nat} {sp : Sp} (T : Here K mg x st) (S : FnScope N ps (defScope st))
    (hb : ∀ (kV doc pm : Value) (an : Option Addr) (cdv ct : Value) (us : List Value), us.length = ps.length → bindArgs (PySem.W.fnOf x x (defArgs st) (defBody st) (defScope st) .none kV doc pm an cdv ct) ⟨us, []⟩ = pure (ps.zip us))
    (len : ∀ vs H Q E, sp vs H Q E → vs.length = ps.length)
    (body : ∀ (f : Addr) (cdv : Value) (A : Around) (outer : List Env) (s : Shared) (H : Hp) (vs : List V) (Q : VK) (E : XK), Room k (A.deeper (envOfC x (defScope st) s.heap.objs.size f cdv)) → sp vs H Q E →
      ∃ t, PSs (cxOf CX0 P w K mg base N x (defScope st) f cdv A outer s H E).nox (defBody st) t ∧ t { nx := fun _ H' => Q .non H', rt := Q } (L2.start N vs) H) :
    Df P w K mg base CX0 x (k + 1) ps sp := by
  obtain ⟨f, fd, F, g⟩ := T.ex
  exact ⟨f, fd, F.ok S len (body f), g, F.kp, F.binds hb⟩
end
section
variable {X : Cx} {x : Str} {k : Nat} {ps : List Str} {sp : Sp} {e : Expr} {es : List Expr} {p pos : Pos} {t : TA}
theorem Df.call (D : Df X.prog X.w X.K X.mg X.base CX0 x k ps sp) (hr : Room k X.A) (hg : Gl X x) (ha : PA X (e :: es) t) (hdb : (x == ("__debug__" : Str)) = false := by decide)
    (he : starEach (e :: es) X.env = (false, eval e X.env) :: starEach es X.env := by rfl) (hpl : (backTo pos (starEach es X.env)).any (·.1) = false := by rfl) : PE X (.Call (.Name x p) (e :: es) [] pos) (tCall sp [] E0 t) := by
  obtain ⟨f, fd, F, g, kp, b⟩ := D.ex
  exact pe_call F hr hg g kp b .nil pass0 ha hdb he hpl
theorem Df.call0 (D : Df X.prog X.w X.K X.mg X.base CX0 x k [] sp) (hr : Room k X.A) (hg : Gl X x) (hdb : (x == ("__debug__" : Str)) = false := by decide) : PE X (.Call (.Name x p) [] [] pos) (fun _ H Q => sp [] H Q E0) := by
  obtain ⟨f, fd, F, g, kp, b⟩ := D.ex
  exact pe_call0 F hr hg g kp b .nil pass0 hdb
theorem pe_gi {i : Int} (hg : Gl X x) (hm : ∃ u, X.mg x = some (.int i u)) (hd : (x == ("__debug__" : Str)) = false := by decide) : PE X (.Name x pos) (tC (.int i)) := by
  obtain ⟨u, h⟩ := hm
  exact pe_glob hg h ⟨_, rfl⟩ hd
end
/-! the rules that name the written part, with it given (a comprehension's block has the same) -/
section
variable {X : Cx} (K : PySem.W.Frag)
theorem ixT (h : X.K = K) : IxR X (rIxT K) := by subst h; exact ix_tup
theorem ixL (h : X.K = K) : IxR X (rIxL K) := by subst h; exact ix_list
theorem slA (h : X.K = K) : SlR X (rSlA K) := by subst h; exact sl_tupA
theorem slL (h : X.K = K) : SlR X (rSlL K) := by subst h; exact sl_list
theorem catA (h : X.K = K) : OpR X (binaryOp .Add) (rCatA K) := by subst h; exact op_catA
theorem eqD (h : X.K = K) (hu : X.A.units + 64 < cLine) : OpR X (compareOp .Eq) (rEqD K) := by subst h; exact op_eqD hu
theorem neD (h : X.K = K) (hu : X.A.units + 64 < cLine) : OpR X (compareOp .NotEq) (rNeD K) := by subst h; exact op_neD hu
theorem isi (h : X.K = K) : CallR X (.builtin "isinstance") (rIsi K) := by subst h; exact call_isi
theorem isiT (h : X.K = K) : CallR X (.builtin "isinstance") (rIsiT K) := by subst h; exact call_isiT
def rLen (K : PySem.W.Frag) : List V → Hp → VK → Prop := fun xs H Q => ∃ p ys, xs = [.ref p] ∧ (SqL K H p ys ∨ SqT K H p ys) ∧ Q (.int ys.length) H
theorem lenQ (h : X.K = K) : CallR X (.builtin "len") (rLen K) := by subst h; exact call_len_seq
def rListOf (K : PySem.W.Frag) : List V → Hp → VK → Prop := fun xs H Q => ∃ p ys, xs = [.ref p] ∧ (SqL K H p ys ∨ SqT K H p ys) ∧ ∀ l, H l = none → Q (.ref l) (upd H l (.lst ys))
theorem listOf (h : X.K = K) : CallR X (.type "list") (rListOf K) := by subst h; exact call_list_of
def rTupleOf (K : PySem.W.Frag) : List V → Hp → VK → Prop := fun xs H Q => ∃ p ys, xs = [.ref p] ∧ ((SqL K H p ys ∧ ∀ l, H l = none → Q (.ref l) (upd H l (.tup ys))) ∨ (SqT K H p ys ∧ Q (.ref p) H))
theorem tupleOf (h : X.K = K) : CallR X (.type "tuple") (rTupleOf K) := by subst h; exact call_tuple_of
theorem pgTup (h : X.K = K) {es : List Expr} {k : Nat} {t : TGs} {n : Nat} {pos : Pos} (hc : X.calm = true) (hp : PGs X es t)
    (hn : (assignEach es X.env).length = n := by rfl) (hst : (assignEach es X.env).findIdx? (·.1) = none := by rfl) : PG X (.Tuple es k pos) (gTup K n t) := by
  subst h; exact pg_tup hc hp hn hst
theorem piList (h : X.K = K) {tg l : Expr} {tl : TE} (hl : PE X l tl) : PI X tg l (iList K tl) := by subst h; exact pi_list hl
theorem piTup (h : X.K = K) {tg l : Expr} {tl : TE} (hl : PE X l tl) : PI X tg l (iTup K tl) := by subst h; exact pi_tup hl
theorem q_len {p : Addr} {H : Hp} {Q : VK} : rLen K [.ref p] H Q = ∃ ys, (SqL K H p ys ∨ SqT K H p ys) ∧ Q (.int ys.length) H := by
  apply propext; constructor
  · rintro ⟨_, ys, e, a, b⟩; cases e; exact ⟨ys, a, b⟩
  · rintro ⟨ys, a, b⟩; exact ⟨_, ys, rfl, a, b⟩
theorem q_listOf {p : Addr} {H : Hp} {Q : VK} : rListOf K [.ref p] H Q = ∃ ys, (SqL K H p ys ∨ SqT K H p ys) ∧ ∀ l, H l = none → Q (.ref l) (upd H l (.lst ys)) := by
  apply propext; constructor
  · rintro ⟨_, ys, e, a, b⟩; cases e; exact ⟨ys, a, b⟩
  · rintro ⟨ys, a, b⟩; exact ⟨_, ys, rfl, a, b⟩
theorem q_tupleOf {p : Addr} {H : Hp} {Q : VK} : rTupleOf K [.ref p] H Q = ∃ ys, ((SqL K H p ys ∧ ∀ l, H l = none → Q (.ref l) (upd H l (.tup ys))) ∨ (SqT K H p ys ∧ Q (.ref p) H)) := by
  apply propext; constructor
  · rintro ⟨_, ys, e, b⟩; cases e; exact ⟨ys, b⟩
  · rintro ⟨ys, b⟩; exact ⟨_, ys, rfl, b⟩
end
/-- the built-in names that the text leaves alone -/
structure Blt (mg : Str → Option Value) : Prop where
  len : mg "len" = none
  isinstance : mg "isinstance" = none
  int : mg "int" = none
  bool : mg "bool" = none
  tuple : mg "tuple" = none
  list : mg "list" = none
  range : mg "range" = none
  enumerate : mg "enumerate" = none
  zip : mg "zip" = none
  max : mg "max" = none
  min : mg "min" = none
/-! ### loops and comprehensions -/
section
variable {K : PySem.W.Frag} {J : It} {n : Nat} {G : Hp → Prop} {Y : Nat → Hp → V → Hp → Prop} {g : TG} {tb : TS} {D : Ends} {σ : L2.St} {H : Hp} {a b : Addr} {xs ys : List V}
theorem forW (wk : Walk J n G Y) (Pv : Nat → L2.St → Hp → Prop) (h0 : Pv 0 σ H) (hG : ∀ i σ H, i ≤ n → Pv i σ H → G H)
    (hs : ∀ i x σ H H', i < n → Pv i σ H → Y i H x H' → g x σ H' fun σ2 H2 => tb { D with nx := Pv (i + 1), ct := Pv (i + 1), bk := D.nx } σ2 H2) (hd : ∀ σ H, Pv n σ H → D.nx σ H) : ForW J g tb D σ H :=
  for_it wk Pv h0 hG hs hd
theorem forRange (Pv : Nat → L2.St → Hp → Prop) (h0 : Pv 0 σ H) (hs : ∀ (i : Nat) σ H, i < n → Pv i σ H → g (.int i) σ H fun σ2 H2 => tb { D with nx := Pv (i + 1), ct := Pv (i + 1), bk := D.nx } σ2 H2)
    (hd : ∀ σ H, Pv n σ H → D.nx σ H) : ForW (Itr 0 n) g tb D σ H :=
  forW walk_range Pv h0 (fun _ _ _ _ _ => trivial) (fun i x σ H H' hi p y => by
    obtain ⟨rfl, rfl⟩ := y
    have e0 : V.int (0 + (i : Int)) = V.int i := congrArg V.int (Int.zero_add _)
    show g (V.int (0 + (i : Int))) σ H' _
    rw [e0]
    exact hs i σ H' hi p) hd
theorem forTup (Pv : Nat → L2.St → Hp → Prop) (h0 : Pv 0 σ H) (hG : ∀ i σ H, i ≤ xs.length → Pv i σ H → SqT K H a xs)
    (hs : ∀ (i : Nat) x σ H, xs[i]? = some x → Pv i σ H → g x σ H fun σ2 H2 => tb { D with nx := Pv (i + 1), ct := Pv (i + 1), bk := D.nx } σ2 H2) (hd : ∀ σ H, Pv xs.length σ H → D.nx σ H) : ForW (Itt K a) g tb D σ H :=
  forW walk_tup Pv h0 hG (fun i x σ H H' _ p y => by
    obtain ⟨rfl, e⟩ := y
    exact hs i x σ H' e p) hd
theorem forList (Pv : Nat → L2.St → Hp → Prop) (h0 : Pv 0 σ H) (hG : ∀ i σ H, i ≤ xs.length → Pv i σ H → SqL K H a xs)
    (hs : ∀ (i : Nat) x σ H, xs[i]? = some x → Pv i σ H → g x σ H fun σ2 H2 => tb { D with nx := Pv (i + 1), ct := Pv (i + 1), bk := D.nx } σ2 H2) (hd : ∀ σ H, Pv xs.length σ H → D.nx σ H) : ForW (Itl K a) g tb D σ H :=
  forW walk_list Pv h0 hG (fun i x σ H H' _ p y => by
    obtain ⟨rfl, e⟩ := y
    exact hs i x σ H' e p) hd
theorem forEnumT (Pv : Nat → L2.St → Hp → Prop) (h0 : Pv 0 σ H) (hG : ∀ i σ H, i ≤ xs.length → Pv i σ H → SqT K H a xs)
    (hs : ∀ (i : Nat) x T σ H, xs[i]? = some x → Pv i σ H → H T = none → g (.ref T) σ (upd H T (.tup [.int i, x])) fun σ2 H2 => tb { D with nx := Pv (i + 1), ct := Pv (i + 1), bk := D.nx } σ2 H2)
    (hd : ∀ σ H, Pv xs.length σ H → D.nx σ H) : ForW (IteT K a) g tb D σ H :=
  forW walk_enumT Pv h0 hG (fun i x σ H H' _ p y => by
    obtain ⟨T, u, v, rfl, hT, rfl, e1, e2⟩ := y
    cases Option.some.inj e1
    exact hs i v T σ H e2 p hT) hd
theorem forEnumL (Pv : Nat → L2.St → Hp → Prop) (h0 : Pv 0 σ H) (hG : ∀ i σ H, i ≤ xs.length → Pv i σ H → SqL K H a xs)
    (hs : ∀ (i : Nat) x T σ H, xs[i]? = some x → Pv i σ H → H T = none → g (.ref T) σ (upd H T (.tup [.int i, x])) fun σ2 H2 => tb { D with nx := Pv (i + 1), ct := Pv (i + 1), bk := D.nx } σ2 H2)
    (hd : ∀ σ H, Pv xs.length σ H → D.nx σ H) : ForW (Ite K a) g tb D σ H :=
  forW walk_enum Pv h0 hG (fun i x σ H H' _ p y => by
    obtain ⟨T, u, v, rfl, hT, rfl, e1, e2⟩ := y
    cases Option.some.inj e1
    exact hs i v T σ H e2 p hT) hd
theorem walk_zipT (hn : n = min xs.length ys.length) : Walk (RZ.ItzT K a b) n (fun H => SqT K H a xs ∧ SqT K H b ys) (YPair (fun i => xs[i]?) (fun i => ys[i]?)) := by
  subst hn
  refine ⟨fun i _ hi q => ?_, fun _ q => ⟨xs, ys, q.1, q.2, by omega⟩, ?_⟩
  · have h1 : i < xs.length := Nat.lt_of_lt_of_le hi (Nat.min_le_left _ _)
    have h2 : i < ys.length := Nat.lt_of_lt_of_le hi (Nat.min_le_right _ _)
    exact ⟨xs, ys, _, _, q.1, q.2, List.getElem?_eq_getElem h1, List.getElem?_eq_getElem h2⟩
  · rintro i H v H' _ q ⟨T, x, z, h1, h2, h3, h4, h5⟩
    exact ⟨T, x, z, h1, h2, h3, h4 xs q.1, h5 ys q.2⟩
theorem forZipT (hl : xs.length = ys.length) (Pv : Nat → L2.St → Hp → Prop) (h0 : Pv 0 σ H) (hG : ∀ i σ H, i ≤ xs.length → Pv i σ H → SqT K H a xs ∧ SqT K H b ys)
    (hs : ∀ (i : Nat) x y T σ H, xs[i]? = some x → ys[i]? = some y → Pv i σ H → H T = none → g (.ref T) σ (upd H T (.tup [x, y])) fun σ2 H2 => tb { D with nx := Pv (i + 1), ct := Pv (i + 1), bk := D.nx } σ2 H2)
    (hd : ∀ σ H, Pv xs.length σ H → D.nx σ H) : ForW (RZ.ItzT K a b) g tb D σ H :=
  forW (walk_zipT (by rw [hl, Nat.min_self])) Pv h0 (fun i σ H hi p => hG i σ H (by omega) p) (fun i x σ H H' _ p y => by
    obtain ⟨T, u, v, rfl, hT, rfl, e1, e2⟩ := y
    exact hs i u v T σ H e1 e2 p hT) (fun σ H p => hd σ H (by rw [hl]; exact p))
variable {tt : TT} {te : TE} {vs : List Nat} {p : Addr} {Qd : Hp → Prop}
theorem lcW (wk : Walk J n G Y) (Pv : Nat → Hp → Prop) (h0 : Pv 0 (upd H p (.lst []))) (hG : ∀ i H, i ≤ n → Pv i H → G H)
    (hs : ∀ i x H H', i < n → Pv i H → Y i H x H' → g x (wipe σ vs) H' fun σ2 H2 => wipe σ2 vs = wipe σ vs ∧ tt σ2 H2 fun b H3 =>
      if b = true then te σ2 H3 fun y H4 => ∃ acc, H4 p = some (.lst acc) ∧ acc.length < sizeLine ∧ Pv (i + 1) (upd H4 p (.lst (acc ++ [y]))) else Pv (i + 1) H3) (hd : ∀ H, Pv n H → Qd H) : LcW J g tt te vs p σ H Qd :=
  lc_it wk Pv h0 hG hs hd
theorem lcRange (Pv : Nat → Hp → Prop) (h0 : Pv 0 (upd H p (.lst [])))
    (hs : ∀ (i : Nat) H, i < n → Pv i H → g (.int i) (wipe σ vs) H fun σ2 H2 => wipe σ2 vs = wipe σ vs ∧ tt σ2 H2 fun b H3 =>
      if b = true then te σ2 H3 fun y H4 => ∃ acc, H4 p = some (.lst acc) ∧ acc.length < sizeLine ∧ Pv (i + 1) (upd H4 p (.lst (acc ++ [y]))) else Pv (i + 1) H3) (hd : ∀ H, Pv n H → Qd H) : LcW (Itr 0 n) g tt te vs p σ H Qd :=
  lcW walk_range Pv h0 (fun _ _ _ _ => trivial) (fun i x H H' hi p y => by
    obtain ⟨rfl, rfl⟩ := y
    have e0 : V.int (0 + (i : Int)) = V.int i := congrArg V.int (Int.zero_add _)
    show g (V.int (0 + (i : Int))) (wipe σ vs) H' _
    rw [e0]
    exact hs i H' hi p) hd
theorem lcTup (Pv : Nat → Hp → Prop) (h0 : Pv 0 (upd H p (.lst []))) (hG : ∀ i H, i ≤ xs.length → Pv i H → SqT K H a xs)
    (hs : ∀ (i : Nat) x H, xs[i]? = some x → Pv i H → g x (wipe σ vs) H fun σ2 H2 => wipe σ2 vs = wipe σ vs ∧ tt σ2 H2 fun b H3 =>
      if b = true then te σ2 H3 fun y H4 => ∃ acc, H4 p = some (.lst acc) ∧ acc.length < sizeLine ∧ Pv (i + 1) (upd H4 p (.lst (acc ++ [y]))) else Pv (i + 1) H3) (hd : ∀ H, Pv xs.length H → Qd H) : LcW (Itt K a) g tt te vs p σ H Qd :=
  lcW walk_tup Pv h0 hG (fun i x H H' _ p y => by
    obtain ⟨rfl, e⟩ := y
    exact hs i x H' e p) hd
theorem lcList (Pv : Nat → Hp → Prop) (h0 : Pv 0 (upd H p (.lst []))) (hG : ∀ i H, i ≤ xs.length → Pv i H → SqL K H a xs)
    (hs : ∀ (i : Nat) x H, xs[i]? = some x → Pv i H → g x (wipe σ vs) H fun σ2 H2 => wipe σ2 vs = wipe σ vs ∧ tt σ2 H2 fun b H3 =>
      if b = true then te σ2 H3 fun y H4 => ∃ acc, H4 p = some (.lst acc) ∧ acc.length < sizeLine ∧ Pv (i + 1) (upd H4 p (.lst (acc ++ [y]))) else Pv (i + 1) H3) (hd : ∀ H, Pv xs.length H → Qd H) : LcW (Itl K a) g tt te vs p σ H Qd :=
  lcW walk_list Pv h0 hG (fun i x H H' _ p y => by
    obtain ⟨rfl, e⟩ := y
    exact hs i x H' e p) hd
theorem lcZipT (hl : xs.length = ys.length) (Pv : Nat → Hp → Prop) (h0 : Pv 0 (upd H p (.lst []))) (hG : ∀ i H, i ≤ xs.length → Pv i H → SqT K H a xs ∧ SqT K H b ys)
    (hs : ∀ (i : Nat) x y T H, xs[i]? = some x → ys[i]? = some y → Pv i H → H T = none → g (.ref T) (wipe σ vs) (upd H T (.tup [x, y])) fun σ2 H2 => wipe σ2 vs = wipe σ vs ∧ tt σ2 H2 fun b H3 =>
      if b = true then te σ2 H3 fun y H4 => ∃ acc, H4 p = some (.lst acc) ∧ acc.length < sizeLine ∧ Pv (i + 1) (upd H4 p (.lst (acc ++ [y]))) else Pv (i + 1) H3) (hd : ∀ H, Pv xs.length H → Qd H) : LcW (RZ.ItzT K a b) g tt te vs p σ H Qd :=
  lcW (walk_zipT (by rw [hl, Nat.min_self])) Pv h0 (fun i H hi p => hG i H (by omega) p) (fun i x H H' _ p y => by
    obtain ⟨T, u, v, rfl, hT, rfl, e1, e2⟩ := y
    exact hs i u v T H e1 e2 p hT) (fun H p => hd H (by rw [hl]; exact p))
end
/-! ### small facts for the readings -/
section
variable {K : PySem.W.Frag} {H H' : Hp} {Q : VK}
theorem cx_K {CX : CXT} {P : Program} {w : World} {K : PySem.W.Frag} {mg : Str → Option Value} {base : Heap} {N : List Str} {q : Str} {sc : Scope} {f : Addr} {cd : Value} {A : Around} {o : List Env} {s : Shared} {H : Hp} {E : XK} :
    (cxOf CX P w K mg base N q sc f cd A o s H E).K = K := rfl
theorem isi_yes {x : V} {a b : String} (ty : TyX K H x (.type a)) (e : kitB a b = some true) (q : Q (.bl true) H) : rIsi K [x, .ty b] H Q := ⟨_, _, _, _, _, rfl, .ty _, ty, kit_ty e, q⟩
theorem isi_no {x : V} {a b : String} (ty : TyX K H x (.type a)) (e : kitB a b = some false) (q : Q (.bl false) H) : rIsi K [x, .ty b] H Q := ⟨_, _, _, _, _, rfl, .ty _, ty, kit_ty e, q⟩
theorem isi_t {x : V} {a b : String} {r : Bool} (ty : TyX K H x (.type a)) (e : kitB a b = some r) (q : Q (.bl r) H) : rIsi K [x, .ty b] H Q := ⟨_, _, _, _, _, rfl, .ty _, ty, kit_ty e, q⟩
theorem tyx_tup {a : Addr} {xs : List V} (h : SqT K H a xs) : TyX K H (.ref a) (.type "tuple") := by
  rcases h with (h | ⟨o, h⟩) | ⟨o, its, n, h, c, _⟩
  · exact .base (.tup h)
  · exact .fTuple h
  · exact .kTuple h c
theorem tyx_lst {a : Addr} {xs : List V} (h : SqL K H a xs) : TyX K H (.ref a) (.type "list") := by
  rcases h with (h | ⟨o, h⟩) | ⟨o, its, n, h, c, _⟩
  · exact .base (.lst h)
  · exact .base (.frz h)
  · exact .kList h c
theorem sqt_same {a : Addr} {xs : List V} (e : Same H H') (h : SqT K H a xs) : SqT K H' a xs := by
  rcases h with (h | ⟨o, h⟩) | h
  · exact .inl (.inl (e _ _ h))
  · exact .inl (.inr ⟨o, e _ _ h⟩)
  · exact .inr h
theorem same_upd {p : Addr} {o : HO} (h : H p = none) : Same H (upd H p o) := fun b x e => by
  rw [upd_ne (ne_of_none e h)]
  exact e
/-- all that was tracked but what stands at a is as it was -/
def But (a : Addr) (H H' : Hp) : Prop := ∀ b o, b ≠ a → H b = some o → H' b = some o
theorem But.refl (a : Addr) (H : Hp) : But a H H := fun _ _ _ h => h
theorem But.trans {a : Addr} {H1 : Hp} (x : But a H H1) (y : But a H1 H') : But a H H' := fun b o n h => y b o n (x b o n h)
theorem same_but {a : Addr} (x : Same H H') : But a H H' := fun b o _ h => x b o h
theorem but_upd {a : Addr} {o : HO} : But a H (upd H a o) := fun b u n h => by
  rw [upd_ne n]
  exact h
theorem sqt_but {a b : Addr} {xs ys : List V} (e : But a H H') (ha : H a = some (.lst ys)) (h : SqT K H b xs) : SqT K H' b xs := by
  rcases h with (h | ⟨o, h⟩) | h
  · exact .inl (.inl (e _ _ (ne_of h ha (fun q => by cases q)) h))
  · exact .inl (.inr ⟨o, e _ _ (ne_of h ha (fun q => by cases q)) h⟩)
  · exact .inr h
theorem But.none_of {a p : Addr} (e : But a H H') (h : H' p = none) (n : p ≠ a) : H p = none := by
  cases q : H p with
  | none => rfl
  | some o =>
    rw [e p o n q] at h
    cases h
end
end Hx

set_option Elab.async false
set_option linter.all false
set_option maxRecDepth 100000
set_option maxHeartbeats 4000000
/-! zip of a list and a tuple -/
namespace Hx
open PySem PySem.Spec PyProof.Rows L2
def ItM (K : PySem.W.Frag) (a b : Addr) (xs ys : List V) : It where
  go := fun i H => SqL K H a xs ∧ SqT K H b ys ∧ i < xs.length ∧ i < ys.length
  yld := fun i H v H' => ∃ T x y, v = .ref T ∧ H T = none ∧ H' = upd H T (.tup [x, y]) ∧ xs[i]? = some x ∧ ys[i]? = some y
  stop := fun i H => SqL K H a xs ∧ SqT K H b ys ∧ i = xs.length ∧ i = ys.length
theorem turn_zipM {P : Program} {w : World} {K : PySem.W.Frag} {es : List Expr} {k : Nat} {ps : Pos} {xs ys : List V} {a b z TI TO i1 i2 : Addr} (S : ZipSep2 z TI TO i1 i2 [i1, a] [i2, b]) (h1a : a ≠ i1) (h2b : b ≠ i2) :
    Turn P w K (.Tuple es k ps) (ItM K a b xs ys) [z, TI, TO, i1, i2] z fun i h => IsZip h z TI TO .none ∧ IsTupOf2 h TI (.ref i1) (.ref i2) ∧ (∃ a1 a2, IsTupOf2 h TO a1 a2) ∧ h.IsListIter i1 a i ∧ h.IsTupleIter i2 b i where
  mem := List.mem_cons_self
  obj := by
    rintro i h ⟨hz, hTI, ⟨x, y, hTO⟩, ⟨o1, e1, _, d1⟩, ⟨o2, e2, _, d2⟩⟩ c hc
    simp only [List.mem_cons, List.not_mem_nil, or_false] at hc
    rcases hc with rfl | rfl | rfl | rfl | rfl
    · exact ⟨_, hz, fun v q => nomatch q⟩
    · exact ⟨_, hTI, fun v q => nomatch q⟩
    · exact ⟨_, hTO, fun v q => nomatch q⟩
    · exact ⟨o1, e1, fun v q => by rw [d1] at q; cases q⟩
    · exact ⟨o2, e2, fun v q => by rw [d2] at q; cases q⟩
  keep := by
    rintro i h h' ⟨hz, hTI, ⟨x, y, hTO⟩, g1, g2⟩ kk
    exact ⟨kk z (by simp) _ hz, kk TI (by simp) _ hTI, ⟨x, y, kk TO (by simp) _ hTO⟩, g1.at fun o q => kk i1 (by simp) o q, g2.at fun o q => kk i2 (by simp) o q⟩
  item := by
    rintro X rfl rfl rfl hc i pins s σ H E I hf ⟨hz, hTI, ⟨x0, y0, hTO⟩, g1, g2⟩ ⟨hq1, hq2, hi1, hi2⟩
    obtain ⟨its1, rv1, p1, _⟩ := I.list hq1
    obtain ⟨its2, rv2, p2, _⟩ := I.tuple hq2
    obtain ⟨u1, hu1, ru1⟩ := rv1.get (List.getElem?_eq_getElem hi1)
    obtain ⟨u2, hu2, ru2⟩ := rv2.get (List.getElem?_eq_getElem hi2)
    have l1 := rv1.length
    have l2 := rv2.length
    have hh : X.A.in1.handled = none := I.ok.hd hc
    have hzl : z < s.heap.objs.size := Heap.lt_size hz
    refine wpAny_pyNext_zipD2_item S (Draws.list hh i1 a h1a its1.toArray) (Draws.tuple hh i2 b h2b its2.toArray) hz hTI hTO ⟨g1, p1.isList⟩ ⟨g2, p2⟩ (by simp; omega) (by simp; omega) fun v1 v2 h' tk e1 e2 z' TO' g1' g2' hT hsz hk => ?_
    have f1 : v1 = u1 := by
      have q : its1[i]? = some v1 := by simpa using e1
      rw [hu1] at q
      exact (Option.some.inj q).symm
    have f2 : v2 = u2 := by
      have q : its2[i]? = some v2 := by simpa using e2
      rw [hu2] at q
      exact (Option.some.inj q).symm
    subst f1 f2
    refine ⟨_, rfl, wpAny_letOwnedTupleGo_zip (s := { s with heap := h', toks := tk }) z' fun h2 z2 sb => ?_⟩
    have hT2 : h2.get? s.heap.objs.size = some { cls := .type "tuple", data := .seq #[v1, v2] } := (sb.2 _ (Nat.ne_of_gt hzl)).trans hT
    have new : ObjOk X.prog X.w (upd H s.heap.objs.size (.tup [xs[i], ys[i]])) h2 s.heap.objs.size (.tup [xs[i], ys[i]]) := by
      refine ⟨?_, [v1, v2], .cons ru1 (.cons ru2 .nil), ⟨_, hT2, rfl, _, rfl⟩⟩
      show 2 ≤ sizeLine
      decide
    have kp : ∀ c o, c ∉ [z, TI, TO, i1, i2] → s.heap.get? c = some o → h2.get? c = some o := fun c o hc q => by
      simp only [List.mem_cons, List.not_mem_nil, or_false, not_or] at hc
      exact (sb.2 c hc.1).trans (hk c o hc.1 hc.2.2.1 hc.2.2.2.1 hc.2.2.2.2 q)
    have J := I.turnedNew (t' := tk) kp hf (Nat.le_refl _) new
    refine ⟨.ref s.heap.objs.size, _, J, rfl, ⟨_, _, _, rfl, I.hok.fresh (Nat.le_refl _), rfl, List.getElem?_eq_getElem hi1, List.getElem?_eq_getElem hi2⟩, ⟨z2, ?_, ⟨v1, v2, ?_⟩, ?_, ?_⟩, fun c hcm => ?_⟩
    · exact (sb.2 _ S.TIz).trans (hk _ _ S.TIz S.TITO S.TIi1 S.TIi2 hTI)
    · exact (sb.2 _ S.TOz).trans TO'
    · exact g1'.1.at fun o q => (sb.2 _ (fun e => S.zf1 (by simp [e]))).trans q
    · exact g2'.1.at fun o q => (sb.2 _ (fun e => S.zf2 (by simp [e]))).trans q
    · have hlt : c < s.heap.objs.size := by
        have hcm' := hcm
        simp only [List.mem_cons, List.not_mem_nil, or_false] at hcm'
        rcases hcm' with rfl | rfl | rfl | rfl | rfl
        · exact hzl
        · exact Heap.lt_size hTI
        · exact Heap.lt_size hTO
        · obtain ⟨_, q, _⟩ := g1
          exact Heap.lt_size q
        · obtain ⟨_, q, _⟩ := g2
          exact Heap.lt_size q
      rw [upd_ne (Nat.ne_of_lt hlt)]
      exact (hf c hcm).1
  done := by
    rintro X rfl rfl rfl hc i pins s σ H E I hf ⟨hz, hTI, ⟨x0, y0, hTO⟩, g1, g2⟩ ⟨hq1, hq2, hi1, hi2⟩
    obtain ⟨its1, rv1, p1, _⟩ := I.list hq1
    obtain ⟨its2, rv2, p2, _⟩ := I.tuple hq2
    have l1 := rv1.length
    have l2 := rv2.length
    have hh : X.A.in1.handled = none := I.ok.hd hc
    refine wpAny_pyNext_zipD2_end S (Draws.list hh i1 a h1a its1.toArray) (Draws.tuple hh i2 b h2b its2.toArray) hz hTI hTO ⟨g1, p1.isList⟩ ⟨g2, p2⟩ (by simp; omega) (by simp; omega) (.inl (by simp; omega)) fun h' tk hk => ⟨rfl, ?_⟩
    exact I.turnedL (t' := tk) (ch := [z, TI, TO, i1, i2]) (fun c o hb q => by
      simp only [List.mem_cons, List.not_mem_nil, or_false, not_or] at hb
      exact hk c o hb.1 hb.2.2.1 hb.2.2.2.1 hb.2.2.2.2 q) hf
  self := fun A i s Q E st h => wpAny_pyIter_zip st.1 h
def iZipM (K : PySem.W.Frag) (ta : TA) : TI := fun σ H R => ta σ H fun vs H1 => ∃ a b xs ys, vs = [.ref a, .ref b] ∧ SqL K H1 a xs ∧ SqT K H1 b ys ∧ R (ItM K a b xs ys) H1
theorem q_iZipM {K : PySem.W.Frag} {ta : TA} {σ : L2.St} {H : Hp} {R : It → Hp → Prop} : iZipM K ta σ H R = ta σ H fun vs H1 => ∃ a b xs ys, vs = [.ref a, .ref b] ∧ SqL K H1 a xs ∧ SqT K H1 b ys ∧ R (ItM K a b xs ys) H1 := rfl
theorem pi_zipM {X : Cx} {e e2 : Expr} {ta : TA} {p pos tpos : Pos} {es : List Expr} {kk : Nat} (hg : Gl X "zip") (hm : X.mg "zip" = none) (ha : PA X [e, e2] ta)
    (hs : starEach [e, e2] X.env = (false, eval e X.env) :: starEach [e2] X.env := by rfl) (hpl : (backTo pos (starEach [e2] X.env)).any (·.1) = false := by rfl) :
    PI X (.Tuple es kk tpos) (.Call (.Name "zip" p) [e, e2] [] pos) (iZipM X.K ta) := by
  refine ⟨fun pins s σ H R I h => ?_⟩
  refine Call_ (ld_blt I hg hm PyProof.Rows.boot_zip (PyProof.Rows.callWith_type1 (thn (ha.run pos pins s σ H _ I h) ?_) hs hpl))
  rintro us s1 ⟨vs, H1, I1, r1, a, b, xs, ys, rfl, hq1, hq2, q⟩
  cases r1 with
  | cons r rr =>
    cases rr with
    | cons r' rr =>
      cases rr
      cases r
      cases r'
      obtain ⟨its1, rv1, p1, _⟩ := I1.list hq1
      obtain ⟨its2, rv2, p2, _⟩ := I1.tuple hq2
      have la : a < s1.heap.objs.size := p1.lt
      have lb : b < s1.heap.objs.size := p2.lt
      refine zip_begins2 (begins_list a its1.toArray) (begins_tuple b its2.toArray) p1.isList p2 fun h' hz hTI hTO h1 h2 hsz hk => wpAny_pyIter_zip hz ?_
      have I2 : Inv X pins σ H1 { s1 with heap := h' } := I1.kept (t' := s1.toks) hk
      have S : ZipSep2 (s1.heap.objs.size + 4) (s1.heap.objs.size + 2) (s1.heap.objs.size + 3) s1.heap.objs.size (s1.heap.objs.size + 1) [s1.heap.objs.size, a] [s1.heap.objs.size + 1, b] :=
        zip_sep2 (fun c hc => by cases List.mem_singleton.mp hc; exact la) (fun c hc => by cases List.mem_singleton.mp hc; exact lb)
      refine ⟨_, _, _, _, H1, rfl, I2, turn_zipM S (Nat.ne_of_lt la) (Nat.ne_of_lt (Nat.lt_succ_of_lt lb)), ⟨hz, hTI, ⟨_, _, hTO⟩, ⟨_, h1, rfl, rfl⟩, ⟨_, h2, rfl, rfl⟩⟩, fun c hc => ?_, q⟩
      have hle : s1.heap.objs.size ≤ c := by
        simp only [List.mem_cons, List.not_mem_nil, or_false] at hc
        rcases hc with rfl | rfl | rfl | rfl | rfl
        · exact Nat.le_add_right _ _
        · exact Nat.le_add_right _ _
        · exact Nat.le_add_right _ _
        · exact Nat.le_refl _
        · exact Nat.le_add_right _ _
      exact I1.fpOk hle (I1.hok.fresh hle)
theorem piZipM {X : Cx} (K : PySem.W.Frag) (h : X.K = K) {e e2 : Expr} {ta : TA} {p pos tpos : Pos} {es : List Expr} {kk : Nat} (hg : Gl X "zip") (hm : X.mg "zip" = none) (ha : PA X [e, e2] ta)
    (hs : starEach [e, e2] X.env = (false, eval e X.env) :: starEach [e2] X.env := by rfl) (hpl : (backTo pos (starEach [e2] X.env)).any (·.1) = false := by rfl) :
    PI X (.Tuple es kk tpos) (.Call (.Name "zip" p) [e, e2] [] pos) (iZipM K ta) := by
  subst h
  exact pi_zipM hg hm ha hs hpl
theorem walk_zipM {K : PySem.W.Frag} {a b : Addr} {xs ys : List V} (hl : xs.length = ys.length) : Walk (ItM K a b xs ys) xs.length (fun H => SqL K H a xs ∧ SqT K H b ys) (YPair (fun i => xs[i]?) (fun i => ys[i]?)) where
  goes := fun i _ hi q => ⟨q.1, q.2, hi, by omega⟩
  stops := fun _ q => ⟨q.1, q.2, rfl, hl⟩
  yields := by
    rintro i H v H' _ q ⟨T, x, y, h1, h2, h3, h4, h5⟩
    exact ⟨T, x, y, h1, h2, h3, h4, h5⟩
theorem forZipM {K : PySem.W.Frag} {g : TG} {tb : TS} {D : Ends} {σ : L2.St} {H : Hp} {a b : Addr} {xs ys : List V} (hl : xs.length = ys.length) (Pv : Nat → L2.St → Hp → Prop) (h0 : Pv 0 σ H) (hG : ∀ i σ H, i ≤ xs.length → Pv i σ H → SqL K H a xs ∧ SqT K H b ys)
    (hs : ∀ (i : Nat) x y T σ H, xs[i]? = some x → ys[i]? = some y → Pv i σ H → H T = none → g (.ref T) σ (upd H T (.tup [x, y])) fun σ2 H2 => tb { D with nx := Pv (i + 1), ct := Pv (i + 1), bk := D.nx } σ2 H2)
    (hd : ∀ σ H, Pv xs.length σ H → D.nx σ H) : ForW (ItM K a b xs ys) g tb D σ H :=
  forW (walk_zipM hl) Pv h0 hG (fun i x σ H H' _ p y => by
    obtain ⟨T, u, v, rfl, hT, rfl, e1, e2⟩ := y
    exact hs i u v T σ H e1 e2 p hT) hd
/-- min(xs) of a list of ints that is not empty -/
theorem minQ {X : Cx} (K : PySem.W.Frag) (h : X.K = K) (hc : X.calm = true) : CallR X (.builtin "min") (rMin K) := by subst h; exact cr_min hc
theorem minDQ {X : Cx} (K : PySem.W.Frag) (h : X.K = K) (hc : X.calm = true) (hu : X.A.units + 64 < cLine) : CallRK X (.builtin "min") [Str.ofString "default"] (rMinD K) := by subst h; exact call_minD hc hu
end Hx

set_option Elab.async false
set_option linter.all false
set_option maxRecDepth 100000
set_option maxHeartbeats 4000000
/-! list(zip(t, u)) of two tuples -/
namespace Hx
open PySem PySem.Spec PyProof.Rows L2
section
variable {prog : Program} {w : World} {A : Around} {E : Value → Shared → Prop} {s : Shared}
variable {z TI TO i1 i2 a b : Addr} {xs ys : Array Value}
theorem zh_item {T : Addr} {f : Bool} {oT : Obj} {k : Nat} {x y : Value} {Q : Option Value → Shared → Prop} (D : ZipApart z TI TO i1 i2 a b) (hz : IsZipHeld s.heap z TI TO T f) (hT : s.heap.get? T = some oT) (hTI : IsPair s.heap TI (.ref i1) (.ref i2))
    (h1 : s.heap.IsTupleIter i1 a k) (h2 : s.heap.IsTupleIter i2 b k) (ha : s.heap.IsTuple a xs) (hb : s.heap.IsTuple b ys) (hx : xs[k]? = some x) (hy : ys[k]? = some y)
    (hQ : ∀ h', IsZipHeld h' z TI TO T true → h'.IsTupleIter i1 a (k + 1) → h'.IsTupleIter i2 b (k + 1) → IsPair h' s.heap.objs.size x y → h'.objs.size = s.heap.objs.size + 1 →
      (∀ c o, c ≠ z → c ≠ i1 → c ≠ i2 → s.heap.get? c = some o → h'.get? c = some o) → Q (some (.ref s.heap.objs.size)) { s with heap := h' }) : wpAny (model prog w) A (pyNext (.ref z)) Q E s := by
  have hTy : s.TypeIs (.ref z) "zip" := ⟨_, hz, rfl⟩
  unfold pyNext
  refine wpAny_bind (wpAny_attempt (wpAny_callSpecial?_slot (name := Str.ofString "__next__") hTy F.slot_zip_next (wpAny_call_entry F.slot_zip_next hTy F.entry_zip_next ?_ (F.args_zip_next_1 _))))
  show wpAny _ _ (field (.ref z) 2 >>= _) _ _ _
  refine wpAny_bind (wpAny_field hz rfl (x := .bool false) rfl ?_)
  show wpAny _ _ (field (.ref z) 3 >>= _) _ _ _
  refine wpAny_bind (wpAny_field hz rfl (x := .ref TI) rfl ?_)
  refine wpAny_bind (wpAny_seqItems hTI rfl ?_)
  show wpAny _ _ (Builtin.SmallTypes.ownedTupleIsFree (.ref z) >>= _) _ _ _
  refine wpAny_bind (wpAny_tupleHeld_zip hz hT fun g1 z1 c1 => ?_)
  simp only [Bool.false_eq_true, if_false]
  refine wpAny_bind ?_
  rw [← Array.forIn_toList]
  simp only [List.forIn_cons, List.forIn_nil]
  refine wpAny_bind (wpAny_bind (wpAny_holding ?_))
  show wpAny _ _ (Builtin.SmallTypes.nextOf (.ref i1) >>= _) _ _ _
  have e1 := c1.extBut
  refine wpAny_bind (wpAny_nextOf_tuple_item (s := { s with heap := g1 }) (h1.extBut e1 D.i1z) (ha.extBut e1 D.l1z) hx fun g2 j2 c2 => wpAny_pure ?_)
  refine wpAny_pure ?_
  refine wpAny_bind (wpAny_bind (wpAny_holding ?_))
  show wpAny _ _ (Builtin.SmallTypes.nextOf (.ref i2) >>= _) _ _ _
  have e2 := c2.extBut
  refine wpAny_bind (wpAny_nextOf_tuple_item (s := { s with heap := g2 }) ((h2.extBut e1 D.i2z).extBut e2 D.i12.symm) ((hb.extBut e1 D.l2z).extBut e2 D.l2i1) hy fun g3 j3 c3 => wpAny_pure ?_)
  refine wpAny_pure (wpAny_pure ?_)
  show wpAny _ _ (newTuple [x, y] >>= _) _ _ _
  refine wpAny_bind (wpAny_newTuple ?_)
  have e3 := c3.extBut
  have sz : g3.objs.size = s.heap.objs.size := by rw [c3.1, c2.1, c1.1]
  have z3 : IsZipHeld g3 z TI TO T true := e3 _ _ D.i2z.symm (e2 _ _ D.i1z.symm z1)
  have kp : ∀ c o, c ≠ z → c ≠ i1 → c ≠ i2 → s.heap.get? c = some o → g3.get? c = some o := fun c o n1 n2 n3 e => e3 _ _ n3 (e2 _ _ n2 (e1 _ _ n1 e))
  have j2' : g3.IsTupleIter i1 a (k + 1) := j2.extBut e3 D.i12
  refine wpAny_pure ⟨_, rfl, wpAny_pure ?_⟩
  show Q (some (.ref g3.objs.size)) _
  generalize hto : ({ cls := .type "tuple", data := .seq #[x, y] } : Obj) = to
  have hp : (g3.push to).get? g3.objs.size = some to := Heap.get?_push_size _ (by rw [← hto]; rfl)
  have hs4 : (g3.push to).objs.size = g3.objs.size + 1 := Heap.size_push ..
  rw [sz] at hp hs4 ⊢
  refine hQ _ (Heap.get?_push_of_some _ z3) (j2'.at fun o e => Heap.get?_push_of_some _ e) (j3.at fun o e => Heap.get?_push_of_some _ e) ?_ hs4 fun c o n1 n2 n3 e => Heap.get?_push_of_some _ (kp c o n1 n2 n3 e)
  exact hp.trans (congrArg some hto.symm)
theorem zh_end {T : Addr} {f : Bool} {oT : Obj} {k : Nat} {Q : Option Value → Shared → Prop} (hh : A.handled = none) (D : ZipApart z TI TO i1 i2 a b) (hz : IsZipHeld s.heap z TI TO T f) (hT : s.heap.get? T = some oT) (hTI : IsPair s.heap TI (.ref i1) (.ref i2))
    (h1 : s.heap.IsTupleIter i1 a k) (ha : s.heap.IsTuple a xs) (hx : xs[k]? = none)
    (hQ : ∀ h', (∀ c o, c ≠ z → c ≠ i1 → c ≠ i2 → s.heap.get? c = some o → h'.get? c = some o) → Q none { s with heap := h' }) : wpAny (model prog w) A (pyNext (.ref z)) Q E s := by
  have hTy : s.TypeIs (.ref z) "zip" := ⟨_, hz, rfl⟩
  unfold pyNext
  refine wpAny_bind (wpAny_attempt (wpAny_callSpecial?_slot (name := Str.ofString "__next__") hTy F.slot_zip_next (wpAny_call_entry F.slot_zip_next hTy F.entry_zip_next ?_ (F.args_zip_next_1 _))))
  show wpAny _ _ (field (.ref z) 2 >>= _) _ _ _
  refine wpAny_bind (wpAny_field hz rfl (x := .bool false) rfl ?_)
  show wpAny _ _ (field (.ref z) 3 >>= _) _ _ _
  refine wpAny_bind (wpAny_field hz rfl (x := .ref TI) rfl ?_)
  refine wpAny_bind (wpAny_seqItems hTI rfl ?_)
  show wpAny _ _ (Builtin.SmallTypes.ownedTupleIsFree (.ref z) >>= _) _ _ _
  refine wpAny_bind (wpAny_tupleHeld_zip hz hT fun g1 z1 c1 => ?_)
  simp only [Bool.false_eq_true, if_false]
  refine wpAny_bind ?_
  rw [← Array.forIn_toList]
  simp only [List.forIn_cons, List.forIn_nil]
  refine wpAny_bind (wpAny_bind (wpAny_holding ?_))
  show wpAny _ _ (Builtin.SmallTypes.nextOf (.ref i1) >>= _) _ _ _
  have e1 := c1.extBut
  refine wpAny_bind (wpAny_nextOf_tuple_end (s := { s with heap := g1 }) hh (h1.extBut e1 D.i1z) (ha.extBut e1 D.l1z) hx fun g2 e c2 he => ?_)
  obtain ⟨o, ho, hc⟩ := he
  refine wpAny_bind (wpAny_isInstance (T := "StopIteration") (b := true) ⟨o, ho, hc⟩ isSubtype_stop ?_)
  exact wpAny_pure (hQ _ fun c o n1 n2 _ q => c2 _ _ n2 (e1 _ _ n1 q))
/-- a zip that is walked with its pairs kept: fresh, or its last pair stands at T -/
def ZS (h : Heap) (z TI TO : Addr) : Prop := (IsZip h z TI TO .none ∧ ∃ x y, IsPair h TO x y) ∨ ∃ T f oT, IsZipHeld h z TI TO T f ∧ h.get? T = some oT ∧ T ≠ z
theorem zs_item {k : Nat} {x y : Value} {Q : Option Value → Shared → Prop} (D : ZipApart z TI TO i1 i2 a b) (hz : ZS s.heap z TI TO) (hTI : IsPair s.heap TI (.ref i1) (.ref i2))
    (h1 : s.heap.IsTupleIter i1 a k) (h2 : s.heap.IsTupleIter i2 b k) (ha : s.heap.IsTuple a xs) (hb : s.heap.IsTuple b ys) (hx : xs[k]? = some x) (hy : ys[k]? = some y)
    (hQ : ∀ h', ZS h' z TI TO → h'.IsTupleIter i1 a (k + 1) → h'.IsTupleIter i2 b (k + 1) → IsPair h' s.heap.objs.size x y →
      (∀ c o, c ≠ z → c ≠ TO → c ≠ i1 → c ≠ i2 → s.heap.get? c = some o → h'.get? c = some o) → Q (some (.ref s.heap.objs.size)) { s with heap := h' }) : wpAny (model prog w) A (pyNext (.ref z)) Q E s := by
  rcases hz with ⟨hz, x0, y0, hTO⟩ | ⟨T, f, oT, hz, hT, hn⟩
  · refine RZ.pyNext_zipT_item D hz hTI hTO h1 h2 ha hb hx hy fun h' a1 a2 a3 a4 a5 a6 a7 => hQ h' (.inr ⟨s.heap.objs.size, false, _, a1, a5, Nat.ne_of_gt (Heap.lt_size hz)⟩) a3 a4 a5 a7
  · refine zh_item D hz hT hTI h1 h2 ha hb hx hy fun h' a1 a3 a4 a5 a6 a7 => hQ h' (.inr ⟨T, true, ?_⟩) a3 a4 a5 fun c o n1 _ n3 n4 e => a7 c o n1 n3 n4 e
    by_cases t1 : T = i1
    · obtain ⟨o, ho, _⟩ := id a3
      exact ⟨o, a1, by rw [t1]; exact ho, hn⟩
    · by_cases t2 : T = i2
      · obtain ⟨o, ho, _⟩ := id a4
        exact ⟨o, a1, by rw [t2]; exact ho, hn⟩
      · exact ⟨oT, a1, a7 T _ hn t1 t2 hT, hn⟩
theorem zs_end {k : Nat} {Q : Option Value → Shared → Prop} (hh : A.handled = none) (D : ZipApart z TI TO i1 i2 a b) (hz : ZS s.heap z TI TO) (hTI : IsPair s.heap TI (.ref i1) (.ref i2))
    (h1 : s.heap.IsTupleIter i1 a k) (h2 : s.heap.IsTupleIter i2 b k) (ha : s.heap.IsTuple a xs) (hb : s.heap.IsTuple b ys) (hx : xs[k]? = none)
    (hQ : ∀ h', (∀ c o, c ≠ z → c ≠ TO → c ≠ i1 → c ≠ i2 → s.heap.get? c = some o → h'.get? c = some o) → Q none { s with heap := h' }) : wpAny (model prog w) A (pyNext (.ref z)) Q E s := by
  rcases hz with ⟨hz, x0, y0, hTO⟩ | ⟨T, f, oT, hz, hT, hn⟩
  · exact RZ.pyNext_zipT_end hh D hz hTI hTO h1 h2 ha hb (.inl hx) hQ
  · exact zh_end hh D hz hT hTI h1 ha hx fun h' k => hQ h' fun c o n1 _ n3 n4 e => k c o n1 n3 n4 e
end
end Hx

set_option Elab.async false
set_option linter.all false
set_option maxRecDepth 100000
set_option maxHeartbeats 4000000
/-! list(zip(t, u)): the walk, the list, the reading -/
namespace Hx
open PySem PySem.Calls PySem.Spec PyProof.Rows L2
theorem zl_nolen : typeLookup (.type "zip") "__len__" = pure none := by rw [typeLookup_type, builtinLookup_eq_fast]; kernel_rfl
theorem zl_nohint : typeLookup (.type "zip") "__length_hint__" = pure none := by rw [typeLookup_type, builtinLookup_eq_fast]; kernel_rfl
/-- the pairs made so far, rising above lo -/
structure ZG (xs ys : Array Value) (lo : Addr) (h : Heap) (as : List Addr) : Prop where
  up : as.Pairwise (· < ·)
  hi : ∀ a ∈ as, lo < a
  at' : ∀ (j : Nat) (a : Addr), as[j]? = some a → ∃ x y, xs[j]? = some x ∧ ys[j]? = some y ∧ IsPair h a x y
theorem ZG.lt {xs ys : Array Value} {lo : Addr} {h : Heap} {as : List Addr} (g : ZG xs ys lo h as) {a : Addr} (ha : a ∈ as) : a < h.objs.size := by
  obtain ⟨j, hj⟩ := List.mem_iff_getElem?.mp ha
  obtain ⟨_, _, _, _, e⟩ := g.at' j a hj
  exact Heap.lt_size e
theorem ZG.keep {xs ys : Array Value} {lo : Addr} {h h' : Heap} {as : List Addr} (g : ZG xs ys lo h as) (k : ∀ b o, lo < b → h.get? b = some o → h'.get? b = some o) : ZG xs ys lo h' as :=
  ⟨g.up, g.hi, fun j a hj => let ⟨x, y, e1, e2, e3⟩ := g.at' j a hj; ⟨x, y, e1, e2, k a _ (g.hi a (List.mem_of_getElem? hj)) e3⟩⟩
theorem ZG.low {xs ys : Array Value} {lo lo' : Addr} {h : Heap} {as : List Addr} (g : ZG xs ys lo h as) (hl : lo' ≤ lo) : ZG xs ys lo' h as := ⟨g.up, fun a ha => Nat.lt_of_le_of_lt hl (g.hi a ha), g.at'⟩
theorem ZG.snoc {xs ys : Array Value} {lo : Addr} {h : Heap} {as : List Addr} {x y : Value} {b : Addr} (g : ZG xs ys lo h as) (hb : ∀ a ∈ as, a < b) (hl : lo < b) (hx : xs[as.length]? = some x) (hy : ys[as.length]? = some y) (hp : IsPair h b x y) : ZG xs ys lo h (as ++ [b]) := by
  refine ⟨List.pairwise_append.mpr ⟨g.up, List.pairwise_singleton _ _, fun a ha c hc => by rw [List.mem_singleton.mp hc]; exact hb a ha⟩, fun a ha => ?_, fun j a hj => ?_⟩
  · rcases List.mem_append.mp ha with q | q
    · exact g.hi a q
    · rw [List.mem_singleton.mp q]; exact hl
  · rcases Nat.lt_or_ge j as.length with q | q
    · exact g.at' j a ((List.getElem?_append_left q).symm.trans hj)
    · rw [List.getElem?_append_right q] at hj
      rcases Nat.eq_or_lt_of_le q with q2 | q2
      · rw [← q2, Nat.sub_self] at hj
        cases hj
        rw [← q2]
        exact ⟨x, y, hx, hy, hp⟩
      · rw [List.getElem?_eq_none (by simp; omega)] at hj
        cases hj
theorem ZS.keep {h h' : Heap} {z TI TO S : Addr} {o' : Obj} (q : ZS h z TI TO) (k : ∀ b o, b ≠ S → h.get? b = some o → h'.get? b = some o) (hS : h'.get? S = some o') (hz : z ≠ S) (hT : TO ≠ S) : ZS h' z TI TO := by
  rcases q with ⟨hz', x, y, t⟩ | ⟨T, f, oT, hz', t, n⟩
  · exact .inl ⟨k _ _ hz hz', x, y, k _ _ hT t⟩
  · by_cases e : T = S
    · exact .inr ⟨T, f, o', k _ _ hz hz', by rw [e]; exact hS, n⟩
    · exact .inr ⟨T, f, oT, k _ _ hz hz', k _ _ e t, n⟩
section
variable {prog : Program} {w : World} {A : Around} {s : Shared} {R : Result → Shared → Prop} {z TI TO i1 i2 a b : Addr} {xs ys : Array Value}
/-- what the walk keeps -/
structure ZI (h : Heap) (z TI TO i1 i2 a b : Addr) (xs ys : Array Value) (i : Nat) : Prop where
  zs : ZS h z TI TO
  ti : IsPair h TI (.ref i1) (.ref i2)
  h1 : h.IsTupleIter i1 a i
  h2 : h.IsTupleIter i2 b i
  ha : h.IsTuple a xs
  hb : h.IsTuple b ys
theorem ZI.keep {h h' : Heap} {S : Addr} {o' : Obj} {i : Nat} (q : ZI h z TI TO i1 i2 a b xs ys i) (k : ∀ c o, c ≠ S → h.get? c = some o → h'.get? c = some o) (hS : h'.get? S = some o') (n : ∀ c ∈ [z, TI, TO, i1, i2, a, b], c ≠ S) : ZI h' z TI TO i1 i2 a b xs ys i :=
  ⟨q.zs.keep k hS (n z (by simp)) (n TO (by simp)), k _ _ (n TI (by simp)) q.ti, q.h1.at fun o e => k _ _ (n i1 (by simp)) e, q.h2.at fun o e => k _ _ (n i2 (by simp)) e,
    let ⟨o, e, r⟩ := q.ha; ⟨o, k _ _ (n a (by simp)) e, r⟩, let ⟨o, e, r⟩ := q.hb; ⟨o, k _ _ (n b (by simp)) e, r⟩⟩
theorem zl_loop {S : Addr} (hh : A.handled = none) (D : ZipApart z TI TO i1 i2 a b) (n : ∀ c ∈ [z, TI, TO, i1, i2, a, b], c ≠ S) (lo : ∀ c ∈ [z, TO, i1, i2], c < S) (hl : ys.size = xs.size) (hn : xs.size ≤ sizeLine) (res : Value) {h₁ : Heap}
    (hR : ∀ h' acc c as, (∀ b o, b ∉ [S, z, TO, i1, i2] → h₁.get? b = some o → h'.get? b = some o) → h'.get? S = some { cls := .type "list", dict := none, data := .seq acc c, slots := #[] } → as.length = xs.size → ZG xs ys S h' as → acc.toList = as.map Value.ref → R (.ok (.ret res)) { s with heap := h' }) :
    ∀ (k i : Nat) (h : Heap) (c : Nat) (acc : Array Value) (as : List Addr), xs.size - i = k → i ≤ xs.size → ZI h z TI TO i1 i2 a b xs ys i → (∀ b o, b ∉ [S, z, TO, i1, i2] → h₁.get? b = some o → h.get? b = some o) →
      h.get? S = some { cls := .type "list", dict := none, data := .seq acc c, slots := #[] } → acc.toList = as.map Value.ref → as.length = i → ZG xs ys S h as → codeAny (model prog w) A (.builtin "list.extend.loop" ⟨[.ref S, .ref z, res], []⟩) R { s with heap := h } := by
  have lo' : ∀ (h h' : Heap), (∀ c o, c ≠ z → c ≠ TO → c ≠ i1 → c ≠ i2 → h.get? c = some o → h'.get? c = some o) → ∀ c o, S ≤ c → h.get? c = some o → h'.get? c = some o := fun h h' q c o hc e =>
    q c o (Nat.ne_of_gt (Nat.lt_of_lt_of_le (lo z (by simp)) hc)) (Nat.ne_of_gt (Nat.lt_of_lt_of_le (lo TO (by simp)) hc)) (Nat.ne_of_gt (Nat.lt_of_lt_of_le (lo i1 (by simp)) hc)) (Nat.ne_of_gt (Nat.lt_of_lt_of_le (lo i2 (by simp)) hc)) e
  have off : ∀ (c : Addr), c ∉ [S, z, TO, i1, i2] → c ≠ S ∧ c ≠ z ∧ c ≠ TO ∧ c ≠ i1 ∧ c ≠ i2 := fun c hc => by
    simpa only [List.mem_cons, List.not_mem_nil, or_false, not_or] using hc
  intro k
  induction k with
  | zero =>
    intro i h c acc as hk hi q hk1 hS hacc hal hG
    refine codeAny_builtin F.entry_extend_loop ?_
    rw [Around.under_plainId F.plain_extend_loop _]
    show wpAny _ A.in1 (pyNext (.ref z) >>= _) _ _ _
    refine wpAny_bind (zs_end (s := { s with heap := h }) (A := A.in1) hh D q.zs q.ti q.h1 q.h2 q.ha q.hb (by simp; omega) fun h' kk => ?_)
    refine wpAny_pure (hR h' acc c as (fun b o hb e => ?_) (lo' _ _ kk _ _ (Nat.le_refl _) hS) (by omega) (hG.keep fun b o hb e => lo' _ _ kk _ _ (Nat.le_of_lt hb) e) hacc)
    obtain ⟨_, e2, e3, e4, e5⟩ := off b hb
    exact kk b o e2 e3 e4 e5 (hk1 b o hb e)
  | succ k ih =>
    intro i h c acc as hk hi q hk1 hS hacc hal hG
    have hlt : i < xs.size := by omega
    have hsz : acc.size = i := by rw [← Array.length_toList, hacc, List.length_map, hal]
    refine codeAny_builtin F.entry_extend_loop ?_
    rw [Around.under_plainId F.plain_extend_loop _]
    show wpAny _ A.in1 (pyNext (.ref z) >>= _) _ _ _
    refine wpAny_bind (zs_item (s := { s with heap := h }) D q.zs q.ti q.h1 q.h2 q.ha q.hb (Array.getElem?_eq_getElem hlt) (Array.getElem?_eq_getElem (by omega)) fun h' q' g1 g2 hp kk => ?_)
    dsimp only at hp kk ⊢
    have hS' := lo' _ _ kk S _ (Nat.le_refl _) hS
    have hSl : S < h.objs.size := Heap.lt_size hS
    have up : ∀ b o, b ≠ S → h'.get? b = some o → (h'.update S (Obj.mapSeq (·.push (Value.ref h.objs.size)))).get? b = some o := fun b o hb e => (Heap.get?_update_other _ _ (Ne.symm hb)).trans e
    have q2 : ZI h' z TI TO i1 i2 a b xs ys (i + 1) := ⟨q', kk _ _ D.TIz D.TITO D.TIi1 D.TIi2 q.ti, g1, g2, let ⟨o, e, r⟩ := q.ha; ⟨o, kk _ _ D.l1z D.l1TO D.l1i1 D.l1i2 e, r⟩, let ⟨o, e, r⟩ := q.hb; ⟨o, kk _ _ D.l2z D.l2TO D.l2i1 D.l2i2 e, r⟩⟩
    have hS3 := Heap.get?_update_self (Obj.mapSeq (·.push (Value.ref h.objs.size))) hS' rfl
    show wpAny _ A.in1 (updateSeq S (·.push (Value.ref h.objs.size)) >>= _) _ _ _
    refine wpAny_bind (wpAny_updateSeq hS' rfl (wpAny_pure ⟨plainId_quiet F.plain_extend_loop _, ih (i + 1) _ _ (acc.push (Value.ref h.objs.size)) (as ++ [h.objs.size]) (by omega) hlt (q2.keep up hS3 n) (fun b o hb e => ?_) hS3 (by rw [Array.toList_push, hacc, List.map_append]; rfl) (by rw [List.length_append, hal]; rfl) ?_⟩) (by rw [hsz]; omega) (by show (acc.push (Value.ref h.objs.size)).size ≤ sizeLine + 1; rw [Array.size_push, hsz]; omega))
    · obtain ⟨e1, e2, e3, e4, e5⟩ := off b hb
      exact up b o e1 (kk b o e2 e3 e4 e5 (hk1 b o hb e))
    · refine ZG.snoc (hG.keep fun b o hb e => up b o (Nat.ne_of_gt hb) (lo' _ _ kk b o (Nat.le_of_lt hb) e)) (fun c hc => hG.lt hc) hSl (by rw [hal]; exact Array.getElem?_eq_getElem hlt) (by rw [hal]; exact Array.getElem?_eq_getElem (by omega)) (up _ _ (Nat.ne_of_gt hSl) hp)
theorem zl_hint {E : Value → Shared → Prop} (hT : s.TypeIs (.ref z) "zip") {Q : Bool → Shared → Prop} (h : Q true s) : wpAny (model prog w) A (Builtin.List.listLengthHint (.ref z)) Q E s := by
  unfold Builtin.List.listLengthHint
  refine wpAny_bind (wpAny_specialOf hT zl_nolen ?_)
  show wpAny _ _ (specialOf (Value.ref z) (Str.ofString "__length_hint__") >>= _) _ _ _
  exact wpAny_bind (wpAny_specialOf hT zl_nohint (wpAny_pure h))
def ZFresh (h : Heap) (z TI TO i1 i2 a b : Addr) (xs ys : Array Value) : Prop := IsZip h z TI TO .none ∧ (∃ x y, IsPair h TO x y) ∧ IsPair h TI (.ref i1) (.ref i2) ∧ h.IsTupleIter i1 a 0 ∧ h.IsTupleIter i2 b 0 ∧ h.IsTuple a xs ∧ h.IsTuple b ys
theorem ZFresh.keep {h h' : Heap} {S : Addr} (q : ZFresh h z TI TO i1 i2 a b xs ys) (k : ∀ c o, c ≠ S → h.get? c = some o → h'.get? c = some o) (n : ∀ c ∈ [z, TI, TO, i1, i2, a, b], c ≠ S) : ZFresh h' z TI TO i1 i2 a b xs ys := by
  obtain ⟨p1, ⟨x, y, p2⟩, p3, p4, p5, ⟨o1, e1, r1⟩, ⟨o2, e2, r2⟩⟩ := q
  exact ⟨k _ _ (n z (by simp)) p1, ⟨x, y, k _ _ (n TO (by simp)) p2⟩, k _ _ (n TI (by simp)) p3, p4.at fun o e => k _ _ (n i1 (by simp)) e, p5.at fun o e => k _ _ (n i2 (by simp)) e, ⟨o1, k _ _ (n a (by simp)) e1, r1⟩, ⟨o2, k _ _ (n b (by simp)) e2, r2⟩⟩
theorem ZFresh.zi {h : Heap} (q : ZFresh h z TI TO i1 i2 a b xs ys) : ZI h z TI TO i1 i2 a b xs ys 0 :=
  ⟨.inl ⟨q.1, q.2.1⟩, q.2.2.1, q.2.2.2.1, q.2.2.2.2.1, q.2.2.2.2.2.1, q.2.2.2.2.2.2⟩
theorem zl_extend {S : Addr} (hh : A.handled = none) (D : ZipApart z TI TO i1 i2 a b) (n : ∀ c ∈ [z, TI, TO, i1, i2, a, b], c ≠ S) (lo : ∀ c ∈ [z, TO, i1, i2], c < S) (hl : ys.size = xs.size) (hn : xs.size ≤ sizeLine) (res : Value) (c₀ : Nat)
    (q : ZFresh s.heap z TI TO i1 i2 a b xs ys) (hS : s.heap.get? S = some { cls := .type "list", data := .seq #[] c₀ })
    (hR : ∀ h' acc c as, (∀ b o, b ∉ [S, z, TO, i1, i2] → s.heap.get? b = some o → h'.get? b = some o) → h'.get? S = some { cls := .type "list", dict := none, data := .seq acc c, slots := #[] } → as.length = xs.size → ZG xs ys S h' as → acc.toList = as.map Value.ref → R (.ok (.ret res)) { s with heap := h' }) :
    wpAny (model prog w) A.in1 (Builtin.List.listExtendWith (.ref S) (.ref z) res)
      (fun fin t => match fin with | .done f => R (.ok f) t | .again d => d.quiet = true ∧ codeAny (model prog w) A d R t) (fun e t => R (.error e) t) s := by
  have hT : s.TypeIs (.ref z) "zip" := ⟨_, q.1, rfl⟩
  unfold Builtin.List.listExtendWith
  refine wpAny_bind (wpAny_typeOf (T := "zip") hT ?_)
  have n1 : Builtin.List.listSameRef (.ref S) (.ref z) = false := by simp [Builtin.List.listSameRef, Ne.symm (n z (by simp))]
  have n2 : (Value.type "zip" == Value.type "list") = false := by decide
  have n3 : (Value.type "zip" == Value.type "tuple") = false := by decide
  simp only [n1, n2, n3, Bool.or_false, Bool.false_eq_true, if_false]
  refine wpAny_bind (wpAny_pyIter_zip q.1 ?_)
  refine wpAny_bind (wpAny_holding (zl_hint hT ?_))
  refine wpAny_bind (wpAny_rule (wpAny_bind ?_))
  show wpAny _ _ (updateSeq S (·.push .none) >>= fun _ => updateSeq S (·.pop)) _ _ _
  refine wpAny_bind (wpAny_updateSeq hS rfl ?_)
  have g2 := Heap.get?_update_self (Obj.mapSeq (·.push Value.none)) hS rfl
  refine wpAny_updateSeq (hz := by seq_fits) g2 rfl ?_
  have g3 := Heap.get?_update_self (Obj.mapSeq (·.pop)) g2 rfl
  have k3 : ∀ c o, c ≠ S → s.heap.get? c = some o → ((s.heap.update S (Obj.mapSeq (·.push Value.none))).update S (Obj.mapSeq (·.pop))).get? c = some o := fun c o hc e =>
    (Heap.get?_update_other _ _ (Ne.symm hc)).trans ((Heap.get?_update_other _ _ (Ne.symm hc)).trans e)
  exact wpAny_pure ⟨plainId_quiet F.plain_extend_loop _, zl_loop (s := s) (h₁ := s.heap) hh D n lo hl hn res hR xs.size 0 _ _ #[] [] (Nat.sub_zero _) (Nat.zero_le _) (q.keep k3 n).zi (fun c o hc e => k3 c o (fun z => hc (by simp [z])) e) g3 rfl rfl ⟨.nil, fun _ z => (List.not_mem_nil z).elim, fun j a z => by simp at z⟩⟩
theorem zl_init {S : Addr} (hh : A.handled = none) (D : ZipApart z TI TO i1 i2 a b) (n : ∀ c ∈ [z, TI, TO, i1, i2, a, b], c ≠ S) (lo : ∀ c ∈ [z, TO, i1, i2], c < S) (hl : ys.size = xs.size) (hn : xs.size ≤ sizeLine)
    (q : ZFresh s.heap z TI TO i1 i2 a b xs ys) (hS : s.heap.get? S = some { cls := .type "list", data := .seq #[] })
    (hR : ∀ h' acc c as, (∀ b o, b ∉ [S, z, TO, i1, i2] → s.heap.get? b = some o → h'.get? b = some o) → h'.get? S = some { cls := .type "list", dict := none, data := .seq acc c, slots := #[] } → as.length = xs.size → ZG xs ys S h' as → acc.toList = as.map Value.ref → R (.ok (.ret .none)) { s with heap := h' }) :
    wpAny (model prog w) A.in1 (Builtin.«list.__init__» ⟨[.ref S, .ref z], []⟩)
      (fun fin t => match fin with | .done f => R (.ok f) t | .again d => d.quiet = true ∧ codeAny (model prog w) A d R t) (fun e t => R (.error e) t) s := by
  show wpAny _ _ (Builtin.List.listItems (.ref S) >>= fun old => Builtin.List.listUpdate (.ref S) (fun _ => #[]) >>= fun _ => letGo old.toList.reverse >>= fun _ => Builtin.List.listExtendWith (.ref S) (.ref z) .none) _ _ s
  refine wpAny_bind ?_
  unfold Builtin.List.listItems
  refine wpAny_bind (wpAny_seqItems hS rfl (wpAny_pure ?_))
  show wpAny _ _ (updateSeq S (fun _ => #[]) >>= fun _ => letGo (#[] : Array Value).toList.reverse >>= fun _ => Builtin.List.listExtendWith (.ref S) (.ref z) .none) _ _ s
  refine wpAny_bind (wpAny_updateSeq hS rfl ?_)
  have g2 := Heap.get?_update_self (Obj.mapSeq (fun _ => (#[] : Array Value))) hS rfl
  have k2 : ∀ c o, c ≠ S → s.heap.get? c = some o → (s.heap.update S (Obj.mapSeq (fun _ => (#[] : Array Value)))).get? c = some o := fun c o hc e => (Heap.get?_update_other _ _ (Ne.symm hc)).trans e
  refine wpAny_bind (wpAny_letGo ?_)
  exact zl_extend hh D n lo hl hn .none _ (q.keep k2 n) g2 fun h' acc c as k g l G e => hR h' acc c as (fun b o hb e => k b o hb (k2 b o (fun z => hb (by simp [z])) e)) g l G e
theorem zl_call {E : Value → Shared → Prop} {Q : Value → Shared → Prop} (hh : A.handled = none) (D : ZipApart z TI TO i1 i2 a b) (hl : ys.size = xs.size) (hn : xs.size ≤ sizeLine) (q : ZFresh s.heap z TI TO i1 i2 a b xs ys)
    (hQ : ∀ h' acc c as, (∀ b o, b ∉ [z, TO, i1, i2] → s.heap.get? b = some o → h'.get? b = some o) → h'.get? s.heap.objs.size = some { cls := .type "list", dict := none, data := .seq acc c, slots := #[] } → as.length = xs.size → ZG xs ys s.heap.objs.size h' as → acc.toList = as.map Value.ref → Q (.ref s.heap.objs.size) { s with heap := h' }) :
    wpAny (model prog w) A (call (.type "list") [.ref z]) Q E s := by
  refine callType_codes (Q₁ := fun obj t => obj = .ref s.heap.objs.size ∧ t = { s with heap := s.heap.push { cls := .type "list", data := .seq #[] } }) F.called_list (F.typeCall_list_1 _) F.entry_list_init (code_list_new _ ⟨rfl, rfl⟩) fun obj t ht => ?_
  obtain ⟨rfl, rfl⟩ := ht
  have hS : (s.heap.push { cls := .type "list", data := .seq #[] }).get? s.heap.objs.size = some { cls := .type "list", data := .seq #[] } := Heap.get?_push_size _ rfl
  obtain ⟨p1, ⟨x, y, p2⟩, p3, ⟨o4, e4, _⟩, ⟨o5, e5, _⟩, ⟨o6, e6, _⟩, ⟨o7, e7, _⟩⟩ := id q
  have lt : ∀ c ∈ [z, TI, TO, i1, i2, a, b], c < s.heap.objs.size := fun c hc => by
    simp only [List.mem_cons, List.not_mem_nil, or_false] at hc
    rcases hc with rfl | rfl | rfl | rfl | rfl | rfl | rfl
    · exact Heap.lt_size p1
    · exact Heap.lt_size p3
    · exact Heap.lt_size p2
    · exact Heap.lt_size e4
    · exact Heap.lt_size e5
    · exact Heap.lt_size e6
    · exact Heap.lt_size e7
  have kp : ∀ c o, s.heap.get? c = some o → (s.heap.push { cls := .type "list", data := .seq #[] }).get? c = some o := fun c o e => Heap.get?_push_of_some _ e
  refine ⟨⟨_, hS, rfl⟩, F.args_list_init_2 _ _, zl_init (A := A.in1) hh D (fun c hc => Nat.ne_of_lt (lt c hc)) (fun c hc => lt c (by simp at hc ⊢; rcases hc with h | h | h | h <;> simp [h])) hl hn (q.keep (S := s.heap.objs.size) (fun c o _ e => kp c o e) (fun c hc => Nat.ne_of_lt (lt c hc))) hS fun h' acc c as k g l G e => ?_⟩
  exact ⟨rfl, hQ h' acc c as (fun b o hb e => k b o (fun z => by
    rcases List.mem_cons.mp z with z | z
    · exact absurd (Heap.lt_size e) (by rw [z]; exact Nat.lt_irrefl _)
    · exact hb z) (kp b o e)) g l G e⟩
end
end Hx

set_option Elab.async false
set_option linter.all false
set_option maxRecDepth 100000
set_option maxHeartbeats 4000000
/-! list(zip(t, u)): the reading -/
namespace Hx
open PySem PySem.Calls PySem.Spec PyProof.Rows L2
def putZ : Hp → List Addr → List (V × V) → Hp
  | H, a :: as, p :: ps => putZ (upd H a (.tup [p.1, p.2])) as ps
  | H, _, _ => H
theorem putZ_off {b : Addr} : ∀ (as : List Addr) (ps : List (V × V)) (H : Hp), b ∉ as → putZ H as ps b = H b := by
  intro as
  induction as with
  | nil => intro ps H _; cases ps <;> rfl
  | cons a as ih =>
    intro ps H hb
    cases ps with
    | nil => rfl
    | cons p ps =>
      show putZ (upd H a (.tup [p.1, p.2])) as ps b = H b
      rw [ih ps _ (fun z => hb (.tail _ z)), upd_ne (fun z => hb (by rw [z]; exact .head _))]
theorem putZ_at : ∀ (as : List Addr) (ps : List (V × V)) (H : Hp) (j : Nat) (a : Addr) (p : V × V), as.Nodup → as[j]? = some a → ps[j]? = some p → putZ H as ps a = some (.tup [p.1, p.2]) := by
  intro as
  induction as with
  | nil => intro ps H j a p _ h; simp at h
  | cons a0 as ih =>
    intro ps H j a p nd h1 h2
    have nd' := List.nodup_cons.mp nd
    cases ps with
    | nil => simp at h2
    | cons p0 ps =>
      show putZ (upd H a0 (.tup [p0.1, p0.2])) as ps a = _
      cases j with
      | zero =>
        cases h1
        cases h2
        rw [putZ_off _ _ _ nd'.1, upd_same]
      | succ j => exact ih ps _ j a p nd'.2 h1 h2
theorem zl_refs : ∀ as : List Addr, Vals (as.map V.ref) (as.map Value.ref)
  | [] => .nil
  | _ :: as => .cons rfl (zl_refs as)
/-- list(zip(t, u)) of two tuples of one length -/
def rZipL (K : PySem.W.Frag) : List V → Hp → VK → Prop := fun vs H Q => ∃ a b xs ys, vs = [.ref a, .ref b] ∧ SqT K H a xs ∧ SqT K H b ys ∧ ys.length = xs.length ∧
  ∀ (H' : Hp) (p : Addr) (ts : List Addr), (∀ c o, H c = some o → H' c = some o) → H p = none → ts.length = xs.length → H' p = some (.lst (ts.map V.ref)) → (∀ (j : Nat) (t : Addr), ts[j]? = some t → ∃ x y, xs[j]? = some x ∧ ys[j]? = some y ∧ H' t = some (.tup [x, y])) → Q (.ref p) H'
def tZipL (K : PySem.W.Frag) (ta : TA) : TE := fun σ H Q => ta σ H fun vs H1 => rZipL K vs H1 Q
theorem q_tZipL {K : PySem.W.Frag} {ta : TA} {σ : L2.St} {H : Hp} {Q : VK} : tZipL K ta σ H Q = ta σ H fun vs H1 => rZipL K vs H1 Q := rfl
section
variable {X : Cx} {e e2 : Expr} {ta : TA} {p p2 pos pos2 : Pos}
theorem zl_laid {pins : List (Addr × Obj)} {σ : L2.St} {H : Hp} {s : Shared} {h' : Heap} {S : Addr} {xs ys : List V} {ixs iys acc : Array Value} {c : Nat} {as : List Addr} (I : Inv X pins σ H s) (hz : xs.length ≤ sizeLine) (rx : Vals xs ixs.toList) (ry : Vals ys iys.toList)
    (hk : ∀ b o, s.heap.get? b = some o → h'.get? b = some o) (hlo : s.heap.objs.size ≤ S) (hS : h'.get? S = some { cls := .type "list", dict := none, data := .seq acc c, slots := #[] }) (hl : as.length = xs.length) (hly : ys.length = xs.length) (hG : ZG ixs iys S h' as) (hacc : acc.toList = as.map Value.ref) :
    ∃ H' : Hp, (∀ b o, H b = some o → H' b = some o) ∧ H S = none ∧ H' S = some (.lst (as.map V.ref)) ∧ (∀ (j : Nat) (t : Addr), as[j]? = some t → ∃ x y, xs[j]? = some x ∧ ys[j]? = some y ∧ H' t = some (.tup [x, y])) ∧ Inv X pins σ H' { s with heap := h' } := by
  have hSn : S ∉ as := fun z => Nat.lt_irrefl _ (hG.hi _ z)
  have nd : as.Nodup := List.Pairwise.imp (fun {a b} (h : a < b) => Nat.ne_of_lt h) hG.up
  have new : ∀ t ∈ as, H t = none := fun t ht => I.hok.fresh (Nat.le_trans hlo (Nat.le_of_lt (hG.hi t ht)))
  have newS : H S = none := I.hok.fresh hlo
  have low : ∀ b o, s.heap.get? b = some o → b ∉ as ∧ b ≠ S := fun b o q => by
    have q := Heap.lt_size q
    exact ⟨fun z => absurd (Nat.lt_of_le_of_lt hlo (hG.hi b z)) (Nat.lt_asymm q), fun z => by subst z; exact absurd hlo (Nat.not_le.mpr q)⟩
  have off : ∀ b, b ∉ as → b ≠ S → putZ (upd H S (.lst (as.map V.ref))) as (xs.zip ys) b = H b := fun b h1 h2 => by rw [putZ_off as _ _ h1, upd_ne h2]
  have kp : ∀ b u, H b = some u → (putZ (upd H S (.lst (as.map V.ref))) as (xs.zip ys)) b = some u := fun b u q => by
    rw [off b (fun z => by rw [new b z] at q; cases q) (fun z => by rw [z, newS] at q; cases q)]
    exact q
  have eS : putZ (upd H S (.lst (as.map V.ref))) as (xs.zip ys) S = some (.lst (as.map V.ref)) := by rw [putZ_off as _ _ hSn, upd_same]
  have atP : ∀ (j : Nat) (t : Addr), as[j]? = some t → ∃ x y, xs[j]? = some x ∧ ys[j]? = some y ∧ putZ (upd H S (.lst (as.map V.ref))) as (xs.zip ys) t = some (.tup [x, y]) := fun j t hj => by
    have hjl : j < as.length := by
      rcases Nat.lt_or_ge j as.length with q | q
      · exact q
      · rw [List.getElem?_eq_none q] at hj; cases hj
    have e1 : xs[j]? = some xs[j] := List.getElem?_eq_getElem (by omega)
    have e2 : ys[j]? = some ys[j] := List.getElem?_eq_getElem (by omega)
    refine ⟨_, _, e1, e2, putZ_at as _ _ j t (xs[j], ys[j]) nd hj ?_⟩
    rw [List.getElem?_zip_eq_some]
    exact ⟨e1, e2⟩
  refine ⟨_, kp, newS, eS, atP, ?_⟩
  refine I.call' (ch := []) rfl ⟨fun b o q _ _ _ => hk b o q, fun b o q _ _ _ => ⟨o.slots, hk b o q⟩, fun b o q n _ => ?_, fun b o q _ => ⟨o, hk b o q⟩, fun b xs q => kp b _ q, fun b o u q => kp b _ q, fun b ps q => ⟨#[], by rw [kp b _ q]; simp⟩⟩ (fun b u q => ?_) I.bare fun b z => by simp at z
  · obtain ⟨z1, z2⟩ := low b o q
    exact (off b z1 z2).trans n
  · by_cases hb : b ∈ as
    · obtain ⟨j, hj⟩ := List.mem_iff_getElem?.mp hb
      obtain ⟨x, y, e1, e2, e3⟩ := atP j b hj
      rw [e3] at q
      cases q
      obtain ⟨v1, v2, f1, f2, f3⟩ := hG.at' j b hj
      obtain ⟨u1, g1, r1⟩ := rx.get e1
      obtain ⟨u2, g2, r2⟩ := ry.get e2
      rw [Array.getElem?_toList, f1] at g1
      rw [Array.getElem?_toList, f2] at g2
      cases g1
      cases g2
      exact ⟨by show 2 ≤ sizeLine; decide, [v1, v2], .cons r1 (.cons r2 .nil), ⟨_, f3, rfl, _, rfl⟩⟩
    · by_cases hb2 : b = S
      · subst hb2
        rw [eS] at q
        cases q
        exact ⟨by rw [List.length_map]; omega, acc.toList, c, by rw [hacc]; exact zl_refs as, by rw [Array.toArray_toList]; exact hS⟩
      · rw [off b hb hb2] at q
        exact (I.hok b u q).stay (fun d v _ y => hk d v y) (fun d y => kp d _ y) fun d xs y => kp d _ y
theorem pe_listZip (hc : X.calm = true) (hg : Gl X "list") (hm : X.mg "list" = none) (hv : bootBuiltins "list" = some (.type "list")) (hg2 : Gl X "zip") (hm2 : X.mg "zip" = none) (ha : PA X [e, e2] ta)
    (hs : starEach [e, e2] X.env = (false, eval e X.env) :: starEach [e2] X.env := by rfl) (hpl : (backTo pos2 (starEach [e2] X.env)).any (·.1) = false := by rfl)
    (hs2 : starEach [.Call (.Name "zip" p2) [e, e2] [] pos2] X.env = (false, eval (.Call (.Name "zip" p2) [e, e2] [] pos2) X.env) :: starEach [] X.env := by rfl) :
    PE X (.Call (.Name "list" p) [.Call (.Name "zip" p2) [e, e2] [] pos2] [] pos) (tZipL X.K ta) := by
  refine ⟨fun pins s σ H Q I hq => ?_⟩
  refine wpAny_Call_Name_kw (ld_blt I hg hm hv ?_)
  refine PyProof.Rows.callWith_type1 ?_ hs2 rfl
  rw [hs2]
  show wpAny _ _ (spliced ((false, eval (.Call (.Name "zip" p2) [e, e2] [] pos2) X.env) :: backTo pos (starEach [] X.env))) _ _ s
  refine Calls.spliced_cons ?_
  refine Call_ (ld_blt I hg2 hm2 PyProof.Rows.boot_zip (PyProof.Rows.callWith_type1 (thn (ha.run pos2 pins s σ H _ I hq) ?_) hs hpl))
  rintro us s1 ⟨vs, H1, I1, r1, a, b, xs, ys, rfl, hq1, hq2, hly, q⟩
  cases r1 with
  | cons r rr =>
    cases rr with
    | cons r' rr =>
      cases rr
      cases r
      cases r'
      obtain ⟨its1, rv1, pt1, hz⟩ := I1.tuple hq1
      obtain ⟨its2, rv2, pt2, _⟩ := I1.tuple hq2
      have l1 := rv1.length
      have l2 := rv2.length
      obtain ⟨o1, ho1, _⟩ := id pt1
      obtain ⟨o2, ho2, _⟩ := id pt2
      refine RZ.call_zipT (show s1.heap.IsTuple a its1.toArray from pt1) (show s1.heap.IsTuple b its2.toArray from pt2) fun h' hz' hTI hTO h1 h2 hsz hk => ?_
      refine Calls.spliced_nil ?_
      have kt : ∀ (d : Addr) (zs : Array Value), s1.heap.IsTuple d zs → h'.IsTuple d zs := fun d zs ⟨o, e, r⟩ => ⟨o, hk _ _ e, r⟩
      refine zl_call (s := { s1 with heap := h' }) (I1.ok.hd hc) (PySem.W.ktu_apart s1.heap.objs.size a b (Heap.lt_size ho1) (Heap.lt_size ho2)) (by simp; omega) (by simp; omega) (q := ⟨hz', ⟨_, _, hTO⟩, hTI, h1, h2, kt _ _ pt1, kt _ _ pt2⟩) fun h'' acc c as k g l G e => ?_
      have kk : ∀ d o, s1.heap.get? d = some o → h''.get? d = some o := fun d o e => k d o (fun z => by
        have q := Heap.lt_size e
        simp only [List.mem_cons, List.not_mem_nil, or_false] at z
        have ge : s1.heap.objs.size ≤ d := by
          rcases z with rfl | rfl | rfl | rfl
          · exact Nat.le_add_right _ _
          · exact Nat.le_add_right _ _
          · exact Nat.le_refl _
          · exact Nat.le_add_right _ _
        exact absurd q (Nat.not_lt.mpr ge)) (hk d o e)
      obtain ⟨H', k1, k2, k3, k4, J⟩ := zl_laid (S := h'.objs.size) I1 hz (by simpa using rv1) (by simpa using rv2) kk (by rw [hsz]; exact Nat.le_add_right _ _) g (by simp at l; omega) hly G e
      exact ⟨.ref _, H', J, rfl, q H' _ as k1 k2 (by simp at l; omega) k3 k4⟩
theorem peListZip (K : PySem.W.Frag) (h : X.K = K) (hc : X.calm = true) (hg : Gl X "list") (hm : X.mg "list" = none) (hg2 : Gl X "zip") (hm2 : X.mg "zip" = none) (ha : PA X [e, e2] ta)
    (hs : starEach [e, e2] X.env = (false, eval e X.env) :: starEach [e2] X.env := by rfl) (hpl : (backTo pos2 (starEach [e2] X.env)).any (·.1) = false := by rfl)
    (hs2 : starEach [.Call (.Name "zip" p2) [e, e2] [] pos2] X.env = (false, eval (.Call (.Name "zip" p2) [e, e2] [] pos2) X.env) :: starEach [] X.env := by rfl) :
    PE X (.Call (.Name "list" p) [.Call (.Name "zip" p2) [e, e2] [] pos2] [] pos) (tZipL K ta) := by
  subst h
  exact pe_listZip hc hg hm rfl hg2 hm2 ha hs hpl hs2
theorem piZipA {tpos : Pos} {es : List Expr} {kk : Nat} (K : PySem.W.Frag) (h : X.K = K) (hg : Gl X "zip") (hm : X.mg "zip" = none) (ha : PA X [e, e2] ta)
    (hs : starEach [e, e2] X.env = (false, eval e X.env) :: starEach [e2] X.env := by rfl) (hpl : (backTo pos (starEach [e2] X.env)).any (·.1) = false := by rfl) :
    PI X (.Tuple es kk tpos) (.Call (.Name "zip" p) [e, e2] [] pos) (RZ.iZipA K ta) := by
  subst h
  exact RZ.pi_zipA hg hm ha hs hpl
end
end Hx

set_option Elab.async false
set_option linter.all false
set_option maxRecDepth 100000
set_option maxHeartbeats 4000000
namespace Hx
open PySem PySem.Spec PyProof.Rows L2
/-! data compared as a whole -/
section
variable {K : PySem.W.Frag} {H : Hp} {Q : VK} {x y : V} {d : PyData}
theorem eq_same (hx : Dp K H x d) (hy : Dp K H y d) (hs : SeqAt.shaped d = true) (q : Q (.bl true) H) : rEqD K x y H Q := ⟨d, d, hx, hy, hs, hs, by rw [SeqAt.eqv_refl d (SeqAt.canLay_of_shaped hs)]; exact q⟩
theorem ne_same (hx : Dp K H x d) (hy : Dp K H y d) (hs : SeqAt.shaped d = true) (q : Q (.bl false) H) : rNeD K x y H Q := ⟨d, d, hx, hy, hs, hs, by rw [SeqAt.eqv_refl d (SeqAt.canLay_of_shaped hs)]; exact q⟩
end
/-- flat data: None and ints -/
def ovP : Option Int → PyData
  | none => .none
  | some i => .int i
def ovX : Option Int → V
  | none => .non
  | some i => .int i
theorem dp_opts (K : PySem.W.Frag) (H : Hp) : ∀ es : List (Option Int), DpAll K H (es.map ovX) (es.map ovP)
  | [] => .nil
  | none :: r => .cons .non (dp_opts K H r)
  | some i :: r => .cons (.int i) (dp_opts K H r)
theorem lay_opts : ∀ es : List (Option Int), PyData.canLayAll0 (es.map ovP) = true
  | [] => rfl
  | none :: r => by
    rw [List.map_cons, PyData.canLayAll0, lay_opts r]
    rfl
  | some i :: r => by
    rw [List.map_cons, PyData.canLayAll0, lay_opts r]
    rfl
theorem depth_opts : ∀ es : List (Option Int), PyData.depthAll (es.map ovP) = 0
  | [] => rfl
  | none :: r => by
    have e := depth_opts r
    simp only [List.map_cons, PyData.depthAll, ovP, PyData.depth, e]
    rfl
  | some i :: r => by
    have e := depth_opts r
    simp only [List.map_cons, PyData.depthAll, ovP, PyData.depth, e]
    rfl
theorem shaped_opts_t (es : List (Option Int)) : SeqAt.shaped (.tuple (es.map ovP)) = true := by
  unfold SeqAt.shaped
  rw [PyData.canLay0, lay_opts, PyData.depth, depth_opts]
  rfl
theorem shaped_opts_l (es : List (Option Int)) : SeqAt.shaped (.list (es.map ovP)) = true := by
  unfold SeqAt.shaped
  rw [PyData.canLay0, lay_opts, PyData.depth, depth_opts]
  rfl
theorem dp_ints_t {K : PySem.W.Frag} {H : Hp} {a : Addr} {xs : List Int} (h : SqT K H a (xs.map V.int)) : Dp K H (.ref a) (.tuple ((xs.map some).map ovP)) := by
  have e := dp_opts K H (xs.map some)
  rw [List.map_map] at e
  exact .tup h e
theorem dp_ints_l {K : PySem.W.Frag} {H : Hp} {a : Addr} {xs : List Int} (h : SqL K H a (xs.map V.int)) : Dp K H (.ref a) (.list ((xs.map some).map ovP)) := by
  have e := dp_opts K H (xs.map some)
  rw [List.map_map] at e
  exact .lst h e
end Hx

set_option Elab.async false
set_option linter.all false
set_option maxRecDepth 100000
set_option maxHeartbeats 4000000
/-! a list made within a list; data of pairs -/
namespace Hx
open PySem PySem.Spec PyProof.Rows L2
theorem relabel_at {sc : Scope} {en : Env} {S : Scope} (h : en.scope = S) : relabel sc en = relabel sc ⟨S, 0, 0, [], Str.empty, none, .none, none, 0⟩ := by
  subst h
  rfl
theorem pe_lcIn {S : Scope} {X : Cx} {s0 : Shared} {H0 : Hp} {sc0 : Scope} {cl0 : List (Str × Addr)} {C0 : Addr} {en : Env} {fp0 : List Addr} {elt tg iter : Expr} {ifs : List Expr} {scope : Scope} {own : List (Str × Nat)} {pos : Pos} {wi : TI} {g : TG} {tt : TT} {te : TE} (hc : X.calm = true) (hN : X.N.Nodup) (hS : en.scope = S)
    (hi : PI (X.blk s0 H0 sc0 (compEnvC sc0 cl0 C0 en) fp0) tg iter wi) (ok : BlkOk X.N (relabel sc0 ⟨S, 0, 0, [], Str.empty, none, .none, none, 0⟩) scope own)
    (hg : ∀ (s : Shared) (H : Hp) (C : Addr) (cl : List (Str × Addr)) (fp : List Addr), PG ((X.blk s0 H0 sc0 (compEnvC sc0 cl0 C0 en) fp0).blk s H scope (compEnvC scope cl C (compEnvC sc0 cl0 C0 en)) fp) tg g)
    (ht : ∀ (s : Shared) (H : Hp) (C : Addr) (cl : List (Str × Addr)) (fp : List Addr), PTs ((X.blk s0 H0 sc0 (compEnvC sc0 cl0 C0 en) fp0).blk s H scope (compEnvC scope cl C (compEnvC sc0 cl0 C0 en)) fp) ifs tt)
    (he : ∀ (s : Shared) (H : Hp) (C : Addr) (cl : List (Str × Addr)) (fp : List Addr), PE ((X.blk s0 H0 sc0 (compEnvC sc0 cl0 C0 en) fp0).blk s H scope (compEnvC scope cl C (compEnvC sc0 cl0 C0 en)) fp) elt te) (hs : ∀ x, foldedSetIterable iter (compEnvC sc0 cl0 C0 en) x = pure x := by intro _; rfl) :
    PE (X.blk s0 H0 sc0 (compEnvC sc0 cl0 C0 en) fp0) (.ListComp elt [⟨tg, iter, ifs, 0⟩] scope pos) (tLc wi g tt te (own.map (·.2))) := by
  refine pe_lc (X := X.blk s0 H0 sc0 (compEnvC sc0 cl0 C0 en) fp0) hc hN hi ?_ hg ht he hs
  show BlkOk X.N (relabel sc0 en) scope own
  rw [relabel_at hS]
  exact ok
/-! pairs as data -/
def prP (x : Int) (y : Option Int) : PyData := .tuple [.int x, ovP y]
theorem lay_prs : ∀ ps : List (Int × Option Int), PyData.canLayAll0 (ps.map fun p => prP p.1 p.2) = true
  | [] => rfl
  | (x, none) :: r => by
    rw [List.map_cons, PyData.canLayAll0, lay_prs r]
    rfl
  | (x, some i) :: r => by
    rw [List.map_cons, PyData.canLayAll0, lay_prs r]
    rfl
theorem depth_prs : ∀ ps : List (Int × Option Int), PyData.depthAll (ps.map fun p => prP p.1 p.2) ≤ 1
  | [] => by
    show PyData.depthAll [] ≤ 1
    simp [PyData.depthAll]
  | (x, none) :: r => by
    have e := depth_prs r
    simp only [List.map_cons, PyData.depthAll, prP, ovP, PyData.depth] at e ⊢
    omega
  | (x, some i) :: r => by
    have e := depth_prs r
    simp only [List.map_cons, PyData.depthAll, prP, ovP, PyData.depth] at e ⊢
    omega
theorem shaped_prs (ps : List (Int × Option Int)) : SeqAt.shaped (.list (ps.map fun p => prP p.1 p.2)) = true := by
  unfold SeqAt.shaped
  have e := depth_prs ps
  rw [PyData.canLay0, lay_prs, PyData.depth]
  simp only [Bool.true_and, decide_eq_true_eq]
  omega
theorem dp_prs {K : PySem.W.Frag} {H : Hp} : ∀ (ts : List Addr) (ps : List (Int × Option Int)), ts.length = ps.length → (∀ (j : Nat) (t : Addr) (p : Int × Option Int), ts[j]? = some t → ps[j]? = some p → Dp K H (.ref t) (prP p.1 p.2)) → DpAll K H (ts.map V.ref) (ps.map fun p => prP p.1 p.2)
  | [], [], _, _ => .nil
  | [], _ :: _, h, _ => by cases h
  | _ :: _, [], h, _ => by cases h
  | t :: ts, p :: ps, h, k => .cons (k 0 t p rfl rfl) (dp_prs ts ps (Nat.succ.inj h) fun j t' p' e1 e2 => k (j + 1) t' p' e1 e2)
end Hx

set_option Elab.async false
set_option linter.all false
set_option maxRecDepth 100000
set_option maxHeartbeats 4000000
/-! Defs that raise, own errors without fields, in over lists of ints. -/
namespace Hx
open PySem PySem.Spec PyProof.Rows L2
section
variable {P : Program} {w : World} {K : PySem.W.Frag} {mg : Str → Option Value} {base : Heap}
theorem Here.dfX {x : Str} {st : Stmt} {N ps : List Str} {k : Nat} {sp : Sp} (T : Here K mg x st) (S : FnScope N ps (defScope st))
    (hb : ∀ (kV doc pm : Value) (an : Option Addr) (cdv ct : Value) (us : List Value), us.length = ps.length → bindArgs (PySem.W.fnOf x x (defArgs st) (defBody st) (defScope st) .none kV doc pm an cdv ct) ⟨us, []⟩ = pure (ps.zip us))
    (len : ∀ vs H Q E, sp vs H Q E → vs.length = ps.length)
    (body : ∀ (f : Addr) (cdv : Value) (A : Around) (outer : List Env) (s : Shared) (H : Hp) (vs : List V) (Q : VK) (E : XK), Room k (A.deeper (envOfC x (defScope st) s.heap.objs.size f cdv)) → sp vs H Q E →
      ∃ t, PSs (cxOf (L2.CX P w) P w K mg base N x (defScope st) f cdv A outer s H E) (defBody st) t ∧ t { nx := fun _ H' => Q .non H', rt := Q } (L2.start N vs) H) :
    Df P w K mg base (L2.CX P w) x (k + 1) ps sp := by
  obtain ⟨f, fd, F, g⟩ := T.ex
  exact ⟨f, fd, F.okX S len (body f), g, F.kp, F.binds hb⟩
end
section
variable {X : Cx} {x : Str} {k : Nat} {ps : List Str} {sp : Sp} {e : Expr} {es : List Expr} {p pos : Pos} {t : TA}
theorem Df.callX {E : XK} (D : Df X.prog X.w X.K X.mg X.base (L2.CX X.prog X.w) x k ps sp) (hr : Room k X.A) (hg : Gl X x) (tk : Takes X (fun cls d _ H => E cls d H)) (ha : PA X (e :: es) t) (hdb : (x == ("__debug__" : Str)) = false := by decide)
    (he : starEach (e :: es) X.env = (false, eval e X.env) :: starEach es X.env := by rfl) (hpl : (backTo pos (starEach es X.env)).any (·.1) = false := by rfl) : PE X (.Call (.Name x p) (e :: es) [] pos) (tCall sp [] E t) := by
  obtain ⟨f, fd, F, g, kp, b⟩ := D.ex
  exact pe_call F hr hg g kp b .nil (passes_call tk fun _ _ _ _ h => h) ha hdb he hpl
theorem Df.callS {W : WX} (D : Df X.prog X.w X.K X.mg X.base (L2.CX X.prog X.w) x k ps sp) (hr : Room k X.A) (hg : Gl X x) (tk : Takes X W) (ha : PA X (e :: es) t) (hdb : (x == ("__debug__" : Str)) = false := by decide)
    (he : starEach (e :: es) X.env = (false, eval e X.env) :: starEach es X.env := by rfl) (hpl : (backTo pos (starEach es X.env)).any (·.1) = false := by rfl) : PE X (.Call (.Name x p) (e :: es) [] pos) (tCallS sp (WE W) t) := by
  obtain ⟨f, fd, F, g, kp, b⟩ := D.ex
  exact pe_callS F hr hg g kp b (fun σ => passAt tk σ) ha hdb he hpl
theorem q_callS {E : L2.St → XK} {σ : L2.St} {H : Hp} {Q : VK} : tCallS sp E t σ H Q = t σ H fun vs H1 => sp vs H1 Q (E σ) := rfl
end
/-- an own error class over HaulError, without own __init__ -/
structure ErrC (K : PySem.W.Frag) (mg : Str → Option Value) (x : Str) (C : Addr) : Prop where
  g : mg x = some (.ref C)
  ex : PySem.W.excIn K C [.type "ValueError", .type "Exception", .type "BaseException", .type "object"] "ValueError.__new__" = true
  kp : PySem.W.keepIn K (.ref C) = true
  sb : PySem.W.subIn K (.ref C) (.type "BaseException") = some true
  ty : PySem.W.typeIn K (.ref C) = some (.type "type")
  te : PySem.W.exmOne K (.ref C) (.ref C) = some true
theorem ErrC.make {X : Cx} {x m : Str} {C : Addr} {j : Nat} {p p2 pos : Pos} (T : ErrC X.K X.mg x C) (hg : Gl X x) (hdb : (x == ("__debug__" : Str)) = false := by decide) : PMk X (.Call (.Name x p) [.Constant (.str m) j p2] [] pos) (fun _ H Q => Q (.ref C) none H) :=
  pmk_own PySem.F.excBase_ValueError T.ex T.g T.kp (raises_own T.sb T.ty) hg hdb
theorem exm_self {K : PySem.W.Frag} {S : Addr} (h1 : PySem.W.subIn K (.ref S) (.type "BaseException") = some true) (h2 : PySem.W.isClsIn K S = true) (h3 : PySem.W.typeIn K (.ref S) = some (.type "type")) (h4 : PySem.W.subIn K (.ref S) (.ref S) = some true) :
    PySem.W.exmOne K (.ref S) (.ref S) = some true := by
  have e1 : (PySem.W.subIn K (.ref S) (.type "BaseException") == some true) = true := by rw [h1] <;> rfl
  have e2 : ((PySem.W.clsIn K S).isSome && PySem.W.typeIn K (.ref S) == some (.type "type")) = true := by
    have h2' : (PySem.W.clsIn K S).isSome = true := h2
    rw [h2', h3] <;> rfl
  show (if (PySem.W.subIn K (.ref S) (.type "BaseException") == some true) = true then (if ((PySem.W.clsIn K S).isSome && PySem.W.typeIn K (.ref S) == some (.type "type")) = true then PySem.W.subIn K (.ref S) (.ref S) else none) else none) = some true
  rw [if_pos e1, if_pos e2]
  exact h4
section
variable {X : Cx} (K : PySem.W.Frag)
theorem inQ (h : X.K = K) : OpR X (compareOp .In) (rIn K false) := by subst h; exact op_in_seq
theorem notInQ (h : X.K = K) : OpR X (compareOp .NotIn) (rIn K true) := by subst h; exact op_notIn_seq
end
theorem flat_ints (xs : List Int) : (xs.map V.int).all flatV = true := by
  rw [List.all_map]
  exact List.all_eq_true.mpr fun _ _ => rfl
theorem inV_ints (x : Int) (xs : List Int) : inV (.int x) (xs.map V.int) = decide (x ∈ xs) := by
  unfold inV
  rw [List.any_map]
  rw [Bool.eq_iff_iff, List.any_eq_true, decide_eq_true_iff]
  constructor
  · rintro ⟨y, hy, e⟩
    have e : decide (y = x) = true := by simpa [eqV] using e
    rw [← of_decide_eq_true e]
    exact hy
  · intro h
    exact ⟨x, h, by simp [eqV]⟩
end Hx

/-! The table of chains, as a function; no Python here. -/
set_option linter.all false
namespace Hx
structure Rope where
  f : Int
  r : Int
  l : Int
abbrev Tab := Nat → Nat → Option Int
def setD (d : Tab) (i j : Nat) (l : Int) : Tab := fun a b => if a = i ∧ b = j then some l else d a b
def keepD (d : Tab) (i j : Nat) (l : Int) : Tab := match d i j with
  | none => setD d i j l
  | some x => if l < x then setD d i j l else d
def baseD (n : Nat) : Tab := fun a b => if a = b ∧ a < n then some 0 else none
def ropesD (d : Tab) (rs : List Rope) : Tab := rs.foldl (fun d r => keepD d r.f.toNat r.r.toNat r.l) d
def fwStep (d : Tab) (m i j : Nat) : Tab := match d i m, d m j with
  | some a, some b => keepD d i j (a + b)
  | _, _ => d
def fwRow (n : Nat) (d : Tab) (m i k : Nat) : Tab := (List.range k).foldl (fun d j => fwStep d m i j) d
def fwMid (n : Nat) (d : Tab) (m k : Nat) : Tab := (List.range k).foldl (fun d i => fwRow n d m i n) d
def fwAll (n : Nat) (d : Tab) (k : Nat) : Tab := (List.range k).foldl (fun d m => fwMid n d m n) d
def chainTab (n : Nat) (rs : List Rope) : Tab := fwAll n (ropesD (baseD n) rs) n
theorem setD_at (d : Tab) (i j : Nat) (l : Int) : setD d i j l i j = some l := if_pos ⟨rfl, rfl⟩
theorem setD_ne (d : Tab) {i j a b : Nat} (l : Int) (h : ¬ (a = i ∧ b = j)) : setD d i j l a b = d a b := if_neg h
theorem keep_cases (d : Tab) (i j : Nat) (l : Int) : (keepD d i j l = setD d i j l ∧ ∀ x, d i j = some x → l < x) ∨ (keepD d i j l = d ∧ ∃ x, d i j = some x ∧ x ≤ l) := by
  unfold keepD
  cases h : d i j with
  | none => exact .inl ⟨rfl, fun x e => by cases e⟩
  | some x =>
    by_cases hl : l < x
    · refine .inl ⟨if_pos hl, fun y e => ?_⟩
      cases e
      exact hl
    · exact .inr ⟨if_neg hl, x, rfl, by omega⟩
theorem step_cases (d : Tab) (m i j : Nat) : (fwStep d m i j = d ∧ (d i m = none ∨ d m j = none)) ∨ ∃ a b, d i m = some a ∧ d m j = some b ∧ fwStep d m i j = keepD d i j (a + b) := by
  unfold fwStep
  cases h : d i m with
  | none => exact .inl ⟨rfl, .inl rfl⟩
  | some a =>
    cases k : d m j with
    | none => exact .inl ⟨rfl, .inr rfl⟩
    | some b => exact .inr ⟨a, b, rfl, rfl, rfl⟩
theorem fwRow_succ (n : Nat) (d : Tab) (m i k : Nat) : fwRow n d m i (k + 1) = fwStep (fwRow n d m i k) m i k := by
  unfold fwRow
  rw [List.range_succ, List.foldl_append]
  rfl
theorem fwMid_succ (n : Nat) (d : Tab) (m k : Nat) : fwMid n d m (k + 1) = fwRow n (fwMid n d m k) m k n := by
  unfold fwMid
  rw [List.range_succ, List.foldl_append]
  rfl
theorem fwAll_succ (n : Nat) (d : Tab) (k : Nat) : fwAll n d (k + 1) = fwMid n (fwAll n d k) k n := by
  unfold fwAll
  rw [List.range_succ, List.foldl_append]
  rfl
/-! what the table is worth, beside potentials x: positions that hold all ropes -/
def HoldsR (x : Nat → Int) (r : Rope) : Prop := x r.f.toNat - x r.r.toNat ≤ r.l
/-- no entry is less than x allows -/
def Sound (x : Nat → Int) (d : Tab) : Prop := ∀ i j l, d i j = some l → x i - x j ≤ l
theorem sound_keep {x : Nat → Int} {d : Tab} (h : Sound x d) {i j : Nat} {l : Int} (hl : x i - x j ≤ l) : Sound x (keepD d i j l) := by
  have hs : Sound x (setD d i j l) := fun a b y e => by
    unfold setD at e
    split at e
    · rename_i hab
      cases e
      obtain ⟨rfl, rfl⟩ := hab
      exact hl
    · exact h a b y e
  rcases keep_cases d i j l with ⟨e, _⟩ | ⟨e, _⟩ <;> rw [e]
  · exact hs
  · exact h
theorem sound_base (x : Nat → Int) (n : Nat) : Sound x (baseD n) := fun a b y e => by
  unfold baseD at e
  split at e
  · rename_i h
    cases e
    rw [h.1]
    omega
  · cases e
theorem sound_ropes {x : Nat → Int} : ∀ (rs : List Rope) {d : Tab}, Sound x d → (∀ r ∈ rs, HoldsR x r) → Sound x (ropesD d rs)
  | [], _, h, _ => h
  | r :: rs, d, h, hr => sound_ropes rs (d := keepD d r.f.toNat r.r.toNat r.l) (sound_keep h (hr r List.mem_cons_self)) fun q hq => hr q (List.mem_cons_of_mem _ hq)
theorem sound_step {x : Nat → Int} {d : Tab} (h : Sound x d) (m i j : Nat) : Sound x (fwStep d m i j) := by
  rcases step_cases d m i j with ⟨e, _⟩ | ⟨a, b, ea, eb, e⟩ <;> rw [e]
  · exact h
  · have h1 := h i m a ea
    have h2 := h m j b eb
    exact sound_keep h (by omega)
theorem sound_fold {α : Type} {x : Nat → Int} (f : Tab → α → Tab) (hf : ∀ d a, Sound x d → Sound x (f d a)) : ∀ (l : List α) {d : Tab}, Sound x d → Sound x (l.foldl f d)
  | [], _, h => h
  | a :: l, d, h => sound_fold f hf l (hf d a h)
theorem sound_all {x : Nat → Int} {d : Tab} (h : Sound x d) (n k : Nat) : Sound x (fwAll n d k) :=
  sound_fold _ (fun _ m h => sound_fold _ (fun _ i h => sound_fold _ (fun _ j h => sound_step h m i j) _ h) _ h) _ h
theorem sound_chain {x : Nat → Int} {n : Nat} {rs : List Rope} (hr : ∀ r ∈ rs, HoldsR x r) : Sound x (chainTab n rs) := sound_all (sound_ropes rs (sound_base x n) hr) n n
/-! entries only become less -/
/-- e is at most d -/
def Le (e d : Option Int) : Prop := ∀ y, d = some y → ∃ z, e = some z ∧ z ≤ y
theorem Le.refl (e : Option Int) : Le e e := fun y h => ⟨y, h, Int.le_refl y⟩
theorem Le.trans {a b c : Option Int} (h : Le a b) (k : Le b c) : Le a c := fun y e => by
  obtain ⟨z, ez, hz⟩ := k y e
  obtain ⟨u, eu, hu⟩ := h z ez
  exact ⟨u, eu, by omega⟩
theorem keep_le (d : Tab) (i j : Nat) (l : Int) (a b : Nat) : Le (keepD d i j l a b) (d a b) := by
  rcases keep_cases d i j l with ⟨e, h⟩ | ⟨e, _⟩ <;> rw [e]
  · by_cases hab : a = i ∧ b = j
    · obtain ⟨rfl, rfl⟩ := hab
      intro y ey
      have := h y ey
      exact ⟨l, setD_at d a b l, by omega⟩
    · rw [setD_ne d l hab]
      exact Le.refl _
  · exact Le.refl _
theorem keep_at (d : Tab) (i j : Nat) (l : Int) : Le (keepD d i j l i j) (some l) := by
  intro y ey
  cases ey
  rcases keep_cases d i j l with ⟨e, h⟩ | ⟨e, x, ex, hx⟩ <;> rw [e]
  · exact ⟨l, setD_at d i j l, Int.le_refl l⟩
  · exact ⟨x, ex, hx⟩
theorem keep_ne (d : Tab) {i j a b : Nat} (l : Int) (h : ¬ (a = i ∧ b = j)) : keepD d i j l a b = d a b := by
  rcases keep_cases d i j l with ⟨e, _⟩ | ⟨e, _⟩ <;> rw [e]
  exact setD_ne d l h
theorem le_fold {α : Type} (f : Tab → α → Tab) (hf : ∀ d x a b, Le (f d x a b) (d a b)) : ∀ (l : List α) (d : Tab) (a b : Nat), Le (l.foldl f d a b) (d a b)
  | [], d, a, b => Le.refl _
  | x :: l, d, a, b => (le_fold f hf l (f d x) a b).trans (hf d x a b)
theorem step_le (d : Tab) (m i j a b : Nat) : Le (fwStep d m i j a b) (d a b) := by
  rcases step_cases d m i j with ⟨e, _⟩ | ⟨_, _, _, _, e⟩ <;> rw [e]
  · exact Le.refl _
  · exact keep_le d i j _ a b
theorem all_le (n : Nat) (d : Tab) (k a b : Nat) : Le (fwAll n d k a b) (d a b) :=
  le_fold _ (fun d m a b => le_fold _ (fun d i a b => le_fold _ (fun d j a b => step_le d m i j a b) _ d a b) _ d a b) _ d a b
theorem ropes_le : ∀ (rs : List Rope) (d : Tab) (a b : Nat), Le (ropesD d rs a b) (d a b) := fun rs d a b => le_fold _ (fun d r a b => keep_le d _ _ _ a b) rs d a b
theorem ropes_at : ∀ (rs : List Rope) (d : Tab) (r : Rope), r ∈ rs → Le (ropesD d rs r.f.toNat r.r.toNat) (some r.l)
  | [], _, _, h => by cases h
  | q :: rs, d, r, h => by
    rcases List.mem_cons.mp h with rfl | h
    · exact (ropes_le rs (keepD d r.f.toNat r.r.toNat r.l) _ _).trans (keep_at d _ _ _)
    · exact ropes_at rs (keepD d q.f.toNat q.r.toNat q.l) r h
theorem chain_rope {n : Nat} {rs : List Rope} {r : Rope} (h : r ∈ rs) : Le (chainTab n rs r.f.toNat r.r.toNat) (some r.l) := (all_le n _ n _ _).trans (ropes_at rs _ r h)
theorem chain_diag {n : Nat} {rs : List Rope} {i : Nat} (h : i < n) : Le (chainTab n rs i i) (some 0) := by
  refine (all_le n _ n i i).trans ((ropes_le rs _ i i).trans ?_)
  unfold baseD
  rw [if_pos ⟨rfl, h⟩]
  exact Le.refl _
/-! the table is closed: no way by a third barge is less -/
def PassI (d : Tab) (m : Nat) (c : Tab) : Prop := ∀ a b, c a b = d a b ∨ ∃ p q, d a m = some p ∧ d m b = some q ∧ c a b = some (p + q) ∧ ∀ y, d a b = some y → p + q < y
theorem PassI.col {d c : Tab} {m : Nat} (h : PassI d m c) (h0 : d m m = some 0) (a : Nat) : c a m = d a m := by
  rcases h a m with e | ⟨p, q, e1, e2, e3, e4⟩
  · exact e
  · rw [h0] at e2
    cases e2
    have := e4 p e1
    omega
theorem PassI.row {d c : Tab} {m : Nat} (h : PassI d m c) (h0 : d m m = some 0) (b : Nat) : c m b = d m b := by
  rcases h m b with e | ⟨p, q, e1, e2, e3, e4⟩
  · exact e
  · rw [h0] at e1
    cases e1
    have := e4 q e2
    omega
theorem PassI.step {d c : Tab} {m : Nat} (h : PassI d m c) (h0 : d m m = some 0) (i j : Nat) : PassI d m (fwStep c m i j) ∧ ∀ p q, d i m = some p → d m j = some q → Le (fwStep c m i j i j) (some (p + q)) := by
  rcases step_cases c m i j with ⟨e, he⟩ | ⟨p, q, e1, e2, e⟩
  · rw [e]
    refine ⟨h, fun p q ep eq => ?_⟩
    rw [h.col h0, h.row h0, ep, eq] at he
    rcases he with he | he <;> cases he
  · rw [e]
    rw [h.col h0] at e1
    rw [h.row h0] at e2
    refine ⟨fun a b => ?_, fun p' q' ep eq => ?_⟩
    · rcases keep_cases c i j (p + q) with ⟨k, hk⟩ | ⟨k, _⟩
      · rw [k]
        by_cases hab : a = i ∧ b = j
        · obtain ⟨rfl, rfl⟩ := hab
          refine .inr ⟨p, q, e1, e2, setD_at c a b _, fun y ey => ?_⟩
          rcases h a b with e' | ⟨p', q', f1, f2, f3, _⟩
          · exact hk y (e'.trans ey)
          · rw [e1] at f1
            rw [e2] at f2
            cases f1
            cases f2
            have := hk _ f3
            omega
        · rw [setD_ne c _ hab]
          exact h a b
      · rw [k]
        exact h a b
    · rw [e1] at ep
      rw [e2] at eq
      cases ep
      cases eq
      exact keep_at c i j _
theorem pass_row (n : Nat) {d c : Tab} {m : Nat} (h : PassI d m c) (h0 : d m m = some 0) (i : Nat) : ∀ k, PassI d m (fwRow n c m i k) ∧ (∀ a b, Le (fwRow n c m i k a b) (c a b)) ∧ ∀ j, j < k → ∀ p q, d i m = some p → d m j = some q → Le (fwRow n c m i k i j) (some (p + q))
  | 0 => ⟨h, fun _ _ => Le.refl _, fun j hj => absurd hj (Nat.not_lt_zero j)⟩
  | k + 1 => by
    obtain ⟨h1, h2, h3⟩ := pass_row n h h0 i k
    obtain ⟨g1, g2⟩ := h1.step h0 i k
    rw [fwRow_succ]
    refine ⟨g1, fun a b => (step_le _ _ _ _ _ _).trans (h2 a b), fun j hj p q ep eq => ?_⟩
    by_cases hjk : j = k
    · subst hjk
      exact g2 p q ep eq
    · exact (step_le _ _ _ _ _ _).trans (h3 j (by omega) p q ep eq)
theorem pass_mid (n : Nat) {d : Tab} {m : Nat} (h0 : d m m = some 0) : ∀ k, PassI d m (fwMid n d m k) ∧ ∀ i, i < k → ∀ j, j < n → ∀ p q, d i m = some p → d m j = some q → Le (fwMid n d m k i j) (some (p + q))
  | 0 => ⟨fun _ _ => .inl rfl, fun i hi => absurd hi (Nat.not_lt_zero i)⟩
  | k + 1 => by
    obtain ⟨h1, h2⟩ := pass_mid n h0 k
    obtain ⟨g1, g2, g3⟩ := pass_row n h1 h0 k n
    rw [fwMid_succ]
    refine ⟨g1, fun i hi j hj p q ep eq => ?_⟩
    by_cases hik : i = k
    · subst hik
      exact g3 j hj p q ep eq
    · exact (g2 i j).trans (h2 i (by omega) j hj p q ep eq)
/-- closed by the first k barges -/
def Closed (n : Nat) (d : Tab) (k : Nat) : Prop := ∀ m, m < k → ∀ i, i < n → ∀ j, j < n → ∀ p q, d i m = some p → d m j = some q → Le (d i j) (some (p + q))
def Diag (n : Nat) (d : Tab) : Prop := ∀ i, i < n → d i i = some 0
theorem le_some {e : Option Int} {y z : Int} (h : Le e (some y)) (hy : y ≤ z) : Le e (some z) := fun u eu => by
  cases eu
  obtain ⟨v, ev, hv⟩ := h y rfl
  exact ⟨v, ev, by omega⟩
theorem closed_mid {n : Nat} {d : Tab} {k : Nat} (hk : k < n) (hd : Diag n d) (h : Closed n d k) : Closed n (fwMid n d k n) (k + 1) := by
  have h0 := hd k hk
  obtain ⟨hp, hq⟩ := pass_mid n h0 n
  have hle : ∀ a b, Le (fwMid n d k n a b) (d a b) := fun a b => le_fold _ (fun d i a b => le_fold _ (fun d j a b => step_le d k i j a b) _ d a b) _ d a b
  intro m hm i hi j hj p q ep eq
  by_cases hmk : m = k
  · subst hmk
    rw [hp.col h0] at ep
    rw [hp.row h0] at eq
    exact hq i hi j hj p q ep eq
  · have hm' : m < k := by omega
    have hmn : m < n := by omega
    rcases hp i m with e | ⟨p1, q1, a1, a2, a3, _⟩
    · rw [e] at ep
      rcases hp m j with e' | ⟨p2, q2, b1, b2, b3, _⟩
      · rw [e'] at eq
        exact (hle i j).trans (h m hm' i hi j hj p q ep eq)
      · rw [eq] at b3
        cases b3
        obtain ⟨z, ez, hz⟩ := h m hm' i hi k hk p p2 ep b1 _ rfl
        exact le_some (hq i hi j hj z q2 ez b2) (by omega)
    · rw [ep] at a3
      cases a3
      rcases hp m j with e' | ⟨p2, q2, b1, b2, b3, _⟩
      · rw [e'] at eq
        obtain ⟨z, ez, hz⟩ := h m hm' k hk j hj q1 q a2 eq _ rfl
        exact le_some (hq i hi j hj p1 z a1 ez) (by omega)
      · rw [eq] at b3
        cases b3
        obtain ⟨z, ez, hz⟩ := h m hm' k hk k hk q1 p2 a2 b1 _ rfl
        rw [h0] at ez
        cases ez
        exact le_some (hq i hi j hj p1 q2 a1 b2) (by omega)
theorem diag_of {n : Nat} {x : Nat → Int} {d : Tab} (hs : Sound x d) (h : ∀ i, i < n → Le (d i i) (some 0)) : Diag n d := fun i hi => by
  obtain ⟨z, ez, hz⟩ := h i hi 0 rfl
  have := hs i i z ez
  have : z = 0 := by omega
  rw [ez, this]
theorem fwAll_good {n : Nat} {x : Nat → Int} {d : Tab} (hs : Sound x d) (hd : Diag n d) : ∀ k, k ≤ n → Diag n (fwAll n d k) ∧ Closed n (fwAll n d k) k
  | 0, _ => ⟨hd, fun m hm => absurd hm (Nat.not_lt_zero m)⟩
  | k + 1, hk => by
    obtain ⟨h1, h2⟩ := fwAll_good hs hd k (by omega)
    refine ⟨diag_of (sound_all hs n (k + 1)) fun i hi => ?_, ?_⟩
    · have := all_le n d (k + 1) i i
      rw [hd i hi] at this
      exact this
    · rw [fwAll_succ]
      exact closed_mid (by omega) h1 h2
theorem chain_good {n : Nat} {x : Nat → Int} {rs : List Rope} (hr : ∀ r ∈ rs, HoldsR x r) : Diag n (chainTab n rs) ∧ Closed n (chainTab n rs) n := by
  refine fwAll_good (sound_ropes rs (sound_base x n) hr) (diag_of (sound_ropes rs (sound_base x n) hr) fun i hi => (ropes_le rs _ i i).trans ?_) n (Nat.le_refl n)
  unfold baseD
  rw [if_pos ⟨rfl, hi⟩]
  exact Le.refl _
end Hx

set_option Elab.async false
set_option linter.all false
set_option maxRecDepth 100000
set_option maxHeartbeats 4000000
namespace Hx
open PySem PySem.Spec PyProof.Rows L2
def topS (i : Nat) : Stmt := PySem.Challenge.pw_haulropes_k26_whole_ropes_that_are_impli.main.body.getD i (.Pass ⟨0, 0, 0, 0⟩)
local macro_rules | `(tactic| walk_at "rd") => `(tactic| (try simp only [q_var, q_c, q_op, q_un, q_rI, q_rI0, q_rU, q_rEq, q_rNe, q_test, q_tB, q_and, q_or, q_not, q_andV, q_orV, q_notV, q_if, q_isN, q_notN, q_chain, q_next, q_seq, q_break, q_cont, q_drop, q_ret, q_retN, q_ifS, q_never, q_gN, q_gNil, q_gCons, q_gTup, q_gSub, q_asg, q_par, q_aug, q_nil, q_cons, q_tup, q_lst, q_call, q_cb, q_noPart, q_part, q_sl, q_bm0, q_bm, q_yes, q_for, q_lc, q_iList, q_iTup, q_iRng1, q_iEnumT, q_iEnum, q_iRng2, q_iZipA, q_iZipM, q_ipI, q_ckw, q_len, q_listOf, q_tupleOf, L2.start, cx_K, wipe, List.map_cons, List.map_nil, List.length_cons, List.length_nil, List.cons_append, List.nil_append, List.append_nil, List.replicate, List.getElem?_cons_zero, List.getElem?_cons_succ, List.set_cons_zero, List.set_cons_succ, Option.some.injEq, List.cons.injEq, exists_eq_left', exists_eq_left, exists_and_left, V.int.injEq, V.bl.injEq, V.ref.injEq, if_true, if_false, Bool.not_true, Bool.not_false, true_and, and_true, Bool.false_eq_true, ite_true, ite_false, Nat.reduceAdd, Nat.reduceSub, reduceCtorEq, decide_false, decide_true, Int.toNat_natCast, false_and, exists_false, or_false, false_or]))
section
variable {P : Program} {w : World} {K : PySem.W.Frag} {mg : Str → Option Value} {base : Heap}
def s_is_number : Stmt := topS 15
abbrev n_is_number : List Str := ["value", "low", "high"]
abbrev p_is_number : List Str := ["value", "low", "high"]
theorem sc_is_number : FnScope n_is_number p_is_number (defScope s_is_number) := ⟨rfl, rfl, rfl, by decide +kernel, rfl, by decide +kernel, by decide +kernel⟩
def sp_is_number (K : PySem.W.Frag) : Sp := fun vs H Q _ => ∃ i lo hi : Int, vs = [.int i, .int lo, .int hi] ∧ Q (.bl (decide (lo ≤ i ∧ i ≤ hi))) H
theorem df_is_number (T : Here K mg "is_number" s_is_number) (B : Blt mg) : Df P w K mg base CX0 "is_number" 1 p_is_number (sp_is_number K) := by
  refine T.df sc_is_number (fun _ _ _ _ _ _ us hl => match us, hl with | [_, _, _], _ => rfl) (fun vs H Q E h => by obtain ⟨_, _, _, rfl, _⟩ := h; rfl) (fun f cdv A outer s H vs Q E hr h => ?_)
  obtain ⟨i, lo, hi, rfl, q⟩ := h
  refine ⟨_, pss_cons (ps_if (PW.pt (pw_or (pt_not (pt_val (pe_callB (isi K rfl) (by rfl) B.isinstance (by decide +kernel) (pa_cons (pv 0) (pa_cons ((pe_bltn (v := .ty "int") (by rfl) B.int (by decide +kernel) rfl)) pa_nil))))) (pw_or1 (pt_val (pe_callB (isi K rfl) (by rfl) B.isinstance (by decide +kernel) (pa_cons (pv 0) (pa_cons ((pe_bltn (v := .ty "bool") (by rfl) B.bool (by decide +kernel) rfl)) pa_nil))))))) (pss_one (ps_ret (pe_bl))) (pss_nil))
      (pss_one (ps_ret (pe_chain op_le op_le (pv 1) (pv 0) (pv 2)))), ?_⟩
  walk_at "rd"
  refine isi_yes (.base (.int i)) (by decide +kernel) ?_
  walk_at "rd"
  refine isi_no (.base (.int i)) (by decide +kernel) ?_
  walk_at "rd"
  by_cases h1 : lo ≤ i
  · rw [if_pos (decide_eq_true h1)]
    simpa only [h1, true_and] using q
  · rw [if_neg (by simpa using h1)]
    simpa only [h1, false_and, decide_false] using q
def s_is_barge : Stmt := topS 16
abbrev n_is_barge : List Str := ["value", "count"]
abbrev p_is_barge : List Str := ["value", "count"]
theorem sc_is_barge : FnScope n_is_barge p_is_barge (defScope s_is_barge) := ⟨rfl, rfl, rfl, by decide +kernel, rfl, by decide +kernel, by decide +kernel⟩
def sp_is_barge (K : PySem.W.Frag) : Sp := fun vs H Q _ => ∃ i n : Int, vs = [.int i, .int n] ∧ Q (.bl (decide (0 ≤ i ∧ i < n))) H
theorem df_is_barge (T : Here K mg "is_barge" s_is_barge) (D_is_number : Df P w K mg base CX0 "is_number" 1 p_is_number (sp_is_number K)) : Df P w K mg base CX0 "is_barge" 2 p_is_barge (sp_is_barge K) := by
  refine T.df sc_is_barge (fun _ _ _ _ _ _ us hl => match us, hl with | [_, _], _ => rfl) (fun vs H Q E h => by obtain ⟨_, _, rfl, _⟩ := h; rfl) (fun f cdv A outer s H vs Q E hr h => ?_)
  obtain ⟨i, n, rfl, q⟩ := h
  refine ⟨_, pss_one (ps_ret (D_is_number.call (hr.mono (by decide)) (by rfl) (pa_cons (pv 0) (pa_cons (pe_int) (pa_cons (pe_op op_sub (pv 1) (pe_int)) pa_nil))))), ?_⟩
  walk_at "rd"
  refine ⟨i, 0, n - 1, rfl, ?_⟩
  have e : decide (0 ≤ i ∧ i < n) = decide (0 ≤ i ∧ i ≤ n - 1) := decide_eq_decide.mpr (by omega)
  rw [← e]
  exact q
/-! fleets -/
def RopeV (K : PySem.W.Frag) (H : Hp) (v : V) (r : Rope) : Prop := ∃ c, v = .ref c ∧ SqT K H c [.int r.f, .int r.r, .int r.l]
def RopeOk (n : Int) (r : Rope) : Prop := 0 ≤ r.f ∧ r.f < n ∧ 0 ≤ r.r ∧ r.r < n ∧ r.f ≠ r.r ∧ -99 ≤ r.l ∧ r.l ≤ 99
theorem RopeV.mono {H H' : Hp} {v : V} {r : Rope} (h : RopeV K H v r) (e : Same H H') : RopeV K H' v r := by
  obtain ⟨c, rfl, h⟩ := h
  exact ⟨c, rfl, sqt_same e h⟩
def s_is_rope : Stmt := topS 17
abbrev n_is_rope : List Str := ["value", "count", "front", "rear", "length"]
abbrev p_is_rope : List Str := ["value", "count"]
theorem sc_is_rope : FnScope n_is_rope p_is_rope (defScope s_is_rope) := ⟨rfl, rfl, rfl, by decide +kernel, rfl, by decide +kernel, by decide +kernel⟩
def sp_is_rope (K : PySem.W.Frag) : Sp := fun vs H Q _ => ∃ (v : V) (r : Rope) (n : Int), vs = [v, .int n] ∧ RopeV K H v r ∧ RopeOk n r ∧ Q (.bl true) H
theorem df_is_rope (T : Here K mg "is_rope" s_is_rope) (B : Blt mg) (C_LONGEST : ∃ u, mg "LONGEST" = some (.int 99 u)) (D_is_number : Df P w K mg base CX0 "is_number" 1 p_is_number (sp_is_number K))
    (D_is_barge : Df P w K mg base CX0 "is_barge" 2 p_is_barge (sp_is_barge K)) : Df P w K mg base CX0 "is_rope" 3 p_is_rope (sp_is_rope K) := by
  refine T.df sc_is_rope (fun _ _ _ _ _ _ us hl => match us, hl with | [_, _], _ => rfl) (fun vs H Q E h => by obtain ⟨_, _, _, rfl, _⟩ := h; rfl) (fun f cdv A outer s H vs Q E hr h => ?_)
  obtain ⟨v, r, n, rfl, ⟨c, rfl, hc⟩, ⟨h1, h2, h3, h4, h5, h6, h7⟩, q⟩ := h
  refine ⟨_, pss_cons (ps_if (PW.pt (pw_or (pt_not (pt_val (pe_callB (isi K rfl) (by rfl) B.isinstance (by decide +kernel) (pa_cons (pv 0) (pa_cons ((pe_bltn (v := .ty "tuple") (by rfl) B.tuple (by decide +kernel) rfl)) pa_nil))))) (pw_or1 (pt_cmpR op_ne (pe_callB (lenQ K rfl) (by rfl) B.len (by decide +kernel) (pa_cons (pv 0) pa_nil)) (pe_int) (nomark _))))) (pss_one (ps_ret (pe_bl))) (pss_nil))
      (pss_cons (ps_asg (pv 0) (pgTup K rfl (n := 3) rfl (pgs_cons (pg_name (i := 2) sc_is_rope.nd rfl (by first | exact Or.inl rfl | exact Or.inr rfl)) (pgs_cons (pg_name (i := 3) sc_is_rope.nd rfl (by first | exact Or.inl rfl | exact Or.inr rfl)) (pgs_cons (pg_name (i := 4) sc_is_rope.nd rfl (by first | exact Or.inl rfl | exact Or.inr rfl)) pgs_nil)))))
      (pss_cons (ps_if (PW.pt (pw_or (pt_not (pt_val (D_is_barge.call (hr.mono (by decide)) (by rfl) (pa_cons (pv 2) (pa_cons (pv 1) pa_nil))))) (pw_or1 (pt_not (pt_val (D_is_barge.call (hr.mono (by decide)) (by rfl) (pa_cons (pv 3) (pa_cons (pv 1) pa_nil)))))))) (pss_one (ps_ret (pe_bl))) (pss_nil))
      (pss_one (ps_ret (pe_and (pe_cmpR op_ne (pv 2) (pv 3) (nomark _)) (pe_one (D_is_number.call (hr.mono (by decide)) (by rfl) (pa_cons (pv 4) (pa_cons (pe_un un_neg (pe_gi (by rfl) C_LONGEST)) (pa_cons (pe_gi (by rfl) C_LONGEST) pa_nil)))))))))), ?_⟩
  walk_at "rd"
  refine isi_yes (tyx_tup hc) (by decide +kernel) ?_
  walk_at "rd"
  refine ⟨_, .inr hc, rfl, iteNS rfl ⟨_, hc, rfl, ?_⟩⟩
  walk_at "rd"
  refine ⟨_, _, rfl, ?_⟩
  rw [decide_eq_true (show 0 ≤ r.f ∧ r.f < n from ⟨h1, h2⟩)]
  walk_at "rd"
  refine ⟨_, _, rfl, ?_⟩
  rw [decide_eq_true (show 0 ≤ r.r ∧ r.r < n from ⟨h3, h4⟩)]
  walk_at "rd"
  refine ⟨rfl, ?_⟩
  rw [decide_eq_false h5]
  walk_at "rd"
  refine ⟨_, _, _, rfl, ?_⟩
  rw [decide_eq_true (show -99 ≤ r.l ∧ r.l ≤ 99 from ⟨h6, h7⟩)]
  exact q
/-- the value v is the fleet of n barges with the ropes rs -/
def FleetV (K : PySem.W.Frag) (H : Hp) (v : V) (n : Int) (rs : List Rope) : Prop := ∃ a b xs, v = .ref a ∧ SqT K H a [.int n, .ref b] ∧ SqT K H b xs ∧ xs.length = rs.length ∧ ∀ (i : Nat) (r : Rope), rs[i]? = some r → ∃ v, xs[i]? = some v ∧ RopeV K H v r
def FleetOk (n : Int) (rs : List Rope) : Prop := 1 ≤ n ∧ n ≤ 8 ∧ rs.length ≤ 40 ∧ ∀ r ∈ rs, RopeOk n r
def s_check_fleet : Stmt := topS 18
abbrev n_check_fleet : List Str := ["fleet", "count", "ropes", "index", "rope"]
abbrev p_check_fleet : List Str := ["fleet"]
theorem sc_check_fleet : FnScope n_check_fleet p_check_fleet (defScope s_check_fleet) := ⟨rfl, rfl, rfl, by decide +kernel, rfl, by decide +kernel, by decide +kernel⟩
def sp_check_fleet (K : PySem.W.Frag) : Sp := fun vs H Q _ => ∃ (v : V) (n : Int) (rs : List Rope), vs = [v] ∧ FleetV K H v n rs ∧ FleetOk n rs ∧ ∀ H', Same H H' → Q .non H'
theorem df_check_fleet (T : Here K mg "check_fleet" s_check_fleet) (B : Blt mg) (C_MOST_BARGES : ∃ u, mg "MOST_BARGES" = some (.int 8 u)) (C_MOST_ROPES : ∃ u, mg "MOST_ROPES" = some (.int 40 u))
    (D_is_number : Df P w K mg base CX0 "is_number" 1 p_is_number (sp_is_number K)) (D_is_rope : Df P w K mg base CX0 "is_rope" 3 p_is_rope (sp_is_rope K)) : Df P w K mg base CX0 "check_fleet" 4 p_check_fleet (sp_check_fleet K) := by
  refine T.df sc_check_fleet (fun _ _ _ _ _ _ us hl => match us, hl with | [_], _ => rfl) (fun vs H Q E h => by obtain ⟨_, _, _, rfl, _⟩ := h; rfl) (fun f cdv A outer s H vs Q E hr h => ?_)
  obtain ⟨v, n, rs, rfl, ⟨a, b, xs, rfl, ha, hb, hl, hx⟩, ⟨h1, h2, h3, h4⟩, q⟩ := h
  refine ⟨_, pss_cons (ps_if (PW.pt (pw_or (pt_not (pt_val (pe_callB (isi K rfl) (by rfl) B.isinstance (by decide +kernel) (pa_cons (pv 0) (pa_cons ((pe_bltn (v := .ty "tuple") (by rfl) B.tuple (by decide +kernel) rfl)) pa_nil))))) (pw_or1 (pt_cmpR op_ne (pe_callB (lenQ K rfl) (by rfl) B.len (by decide +kernel) (pa_cons (pv 0) pa_nil)) (pe_int) (nomark _))))) (pss_one (ps_never)) (pss_nil))
      (pss_cons (ps_asg (pv 0) (pgTup K rfl (n := 2) rfl (pgs_cons (pg_name (i := 1) sc_check_fleet.nd rfl (by first | exact Or.inl rfl | exact Or.inr rfl)) (pgs_cons (pg_name (i := 2) sc_check_fleet.nd rfl (by first | exact Or.inl rfl | exact Or.inr rfl)) pgs_nil))))
      (pss_cons (ps_if (pt_not (pt_val (D_is_number.call (hr.mono (by decide)) (by rfl) (pa_cons (pv 1) (pa_cons (pe_int) (pa_cons (pe_gi (by rfl) C_MOST_BARGES) pa_nil)))))) (pss_one (ps_never)) (pss_nil))
      (pss_cons (ps_if (pt_not (pt_val (pe_callB (isi K rfl) (by rfl) B.isinstance (by decide +kernel) (pa_cons (pv 2) (pa_cons ((pe_bltn (v := .ty "tuple") (by rfl) B.tuple (by decide +kernel) rfl)) pa_nil))))) (pss_one (ps_never)) (pss_nil))
      (pss_one (ps_for PassesOwn.never rfl (pi_enumT (by rfl) B.enumerate (pa_cons (pv 2) pa_nil)) (pgTup K rfl (n := 2) rfl (pgs_cons (pg_name (i := 3) sc_check_fleet.nd rfl (by first | exact Or.inl rfl | exact Or.inr rfl)) (pgs_cons (pg_name (i := 4) sc_check_fleet.nd rfl (by first | exact Or.inl rfl | exact Or.inr rfl)) pgs_nil))) (pss_one (ps_if (PW.pt (pw_or (pt_cmpR op_eq (pv 3) (pe_gi (by rfl) C_MOST_ROPES) (nomark _)) (pw_or1 (pt_not (pt_val (D_is_rope.call (hr.mono (by decide)) (by rfl) (pa_cons (pv 4) (pa_cons (pv 1) pa_nil)))))))) (pss_one (ps_never)) (pss_nil)))))))), ?_⟩
  walk_at "rd"
  refine isi_yes (tyx_tup ha) (by decide +kernel) ?_
  walk_at "rd"
  refine ⟨_, .inr ha, rfl, iteNS rfl ⟨_, ha, rfl, ?_⟩⟩
  walk_at "rd"
  refine ⟨_, _, _, rfl, ?_⟩
  rw [decide_eq_true (show 1 ≤ n ∧ n ≤ 8 from ⟨h1, h2⟩)]
  walk_at "rd"
  refine isi_yes (tyx_tup hb) (by decide +kernel) ?_
  walk_at "rd"
  refine ⟨⟨_, hb⟩, ?_⟩
  refine forEnumT (xs := xs) (fun i σ H' => ∃ x3 x4, σ = [some (.ref a), some (.int n), some (.ref b), x3, x4] ∧ Same H H') ⟨_, _, rfl, .refl _⟩ (fun i σ H' _ p => ?_) (fun i x T σ H' hx' p hT => ?_) (fun σ H' p => ?_)
  · obtain ⟨_, _, _, e⟩ := p
    exact sqt_same e hb
  · obtain ⟨x3, x4, rfl, e⟩ := p
    have hi : i < rs.length := by
      rw [← hl]
      exact (List.getElem?_eq_some_iff.mp hx').1
    obtain ⟨u, hu, hv⟩ := hx i rs[i] (List.getElem?_eq_getElem hi)
    cases hx'.symm.trans hu
    walk_at "rd"
    refine ⟨_, .of upd_same, rfl, ?_⟩
    walk_at "rd"
    refine ⟨rfl, ?_⟩
    rw [decide_eq_false (show ¬ (i : Int) = 40 by omega)]
    walk_at "rd"
    refine ⟨_, _, _, rfl, (hv.mono e).mono (same_upd hT), h4 _ (List.getElem_mem hi), ?_⟩
    walk_at "rd"
    exact ⟨_, _, ⟨rfl, rfl⟩, e.trans (same_upd hT)⟩
  · obtain ⟨_, _, _, e⟩ := p
    exact q _ e
/-! entries: positions (ints), or also None -/
def ovV : Option Int → V
  | none => .non
  | some i => .int i
theorem cut_all (k : Nat) {n : Int} (h : (k : Int) = n) : HT.sIx k 0 none = 0 ∧ HT.sIx k k (some n) = k := by
  subst h
  exact ⟨rfl, by rw [HT.sIx_nat, Nat.min_self]⟩
def s_first_wrong_entry : Stmt := topS 20
abbrev n_first_wrong_entry : List Str := ["entries", "count", "blank", "index", "entry"]
abbrev p_first_wrong_entry : List Str := ["entries", "count", "blank"]
theorem sc_first_wrong_entry : FnScope n_first_wrong_entry p_first_wrong_entry (defScope s_first_wrong_entry) := ⟨rfl, rfl, rfl, by decide +kernel, rfl, by decide +kernel, by decide +kernel⟩
def sp_first_wrong_entry (K : PySem.W.Frag) : Sp := fun vs H Q _ => ∃ (a : Addr) (es : List (Option Int)) (n : Int) (b : Bool), vs = [.ref a, .int n, .bl b] ∧ SqT K H a (es.map ovV) ∧ (es.length : Int) = n ∧
  (∀ e ∈ es, (e = none → b = true) ∧ ∀ i, e = some i → -9999 ≤ i ∧ i ≤ 9999) ∧ ∀ H', Same H H' → Q .non H'
theorem df_first_wrong_entry (T : Here K mg "first_wrong_entry" s_first_wrong_entry) (B : Blt mg) (C_FARTHEST : ∃ u, mg "FARTHEST" = some (.int 9999 u))
    (D_is_number : Df P w K mg base CX0 "is_number" 1 p_is_number (sp_is_number K)) : Df P w K mg base CX0 "first_wrong_entry" 2 p_first_wrong_entry (sp_first_wrong_entry K) := by
  refine T.df sc_first_wrong_entry (fun _ _ _ _ _ _ us hl => match us, hl with | [_, _, _], _ => rfl) (fun vs H Q E h => by obtain ⟨_, _, _, _, rfl, _⟩ := h; rfl) (fun f cdv A outer s H vs Q E hr h => ?_)
  obtain ⟨a, es, n, b, rfl, ha, hl, hes, q⟩ := h
  refine ⟨_, pss_cons (ps_if (pt_not (pt_val (pe_callB (isi K rfl) (by rfl) B.isinstance (by decide +kernel) (pa_cons (pv 0) (pa_cons ((pe_bltn (v := .ty "tuple") (by rfl) B.tuple (by decide +kernel) rfl)) pa_nil))))) (pss_one (ps_ret (pe_int))) (pss_nil))
      (pss_cons (ps_for PassesOwn.never rfl (pi_enumT (by rfl) B.enumerate (pa_cons (pe_slice (slA K rfl) (pv 0) po_none (po_some (pv 1))) pa_nil)) (pgTup K rfl (n := 2) rfl (pgs_cons (pg_name (i := 3) sc_first_wrong_entry.nd rfl (by first | exact Or.inl rfl | exact Or.inr rfl)) (pgs_cons (pg_name (i := 4) sc_first_wrong_entry.nd rfl (by first | exact Or.inl rfl | exact Or.inr rfl)) pgs_nil))) (pss_cons (ps_if (PW.pt (pw_and (pt_val (pv 2)) (pw_and1 (pt_cmpR op_isN (pv 4) (pe_non) (nomark _))))) (pss_one (ps_continue)) (pss_nil))
      (pss_one (ps_if (pt_not (pt_val (D_is_number.call (hr.mono (by decide)) (by rfl) (pa_cons (pv 4) (pa_cons (pe_un un_neg (pe_gi (by rfl) C_FARTHEST)) (pa_cons (pe_gi (by rfl) C_FARTHEST) pa_nil)))))) (pss_one (ps_ret (pv 3))) (pss_nil)))))
      (pss_cons (ps_if (pt_cmpR op_ne (pe_callB (lenQ K rfl) (by rfl) B.len (by decide +kernel) (pa_cons (pv 0) pa_nil)) (pv 1) (nomark _)) (pss_one (ps_ret (pe_callB (call_min2 rfl) (by rfl) B.min (by decide +kernel) (pa_cons (pe_callB (lenQ K rfl) (by rfl) B.len (by decide +kernel) (pa_cons (pv 0) pa_nil)) (pa_cons (pv 1) pa_nil))))) (pss_nil))
      (pss_one (ps_ret (pe_non))))), ?_⟩
  walk_at "rd"
  refine isi_yes (tyx_tup ha) (by decide +kernel) ?_
  walk_at "rd"
  have hl' : (es.map ovV).length = es.length := List.length_map ..
  refine ⟨a, _, rfl, ha, fun _ => ?_, fun e => absurd (cut_all _ (by rw [hl']; exact hl)) e⟩
  walk_at "rd"
  refine ⟨⟨_, ha⟩, ?_⟩
  refine forEnumT (xs := es.map ovV) (fun i σ H' => ∃ x3 x4, σ = [some (.ref a), some (.int n), some (.bl b), x3, x4] ∧ Same H H') ⟨_, _, rfl, .refl _⟩ (fun i σ H' _ p => ?_) (fun i x T σ H' hx' p hT => ?_) (fun σ H' p => ?_)
  · obtain ⟨_, _, _, e⟩ := p
    exact sqt_same e ha
  · obtain ⟨x3, x4, rfl, e⟩ := p
    obtain ⟨en, hen, rfl⟩ := List.mem_map.mp (List.mem_of_getElem? hx')
    obtain ⟨hn, hi⟩ := hes en hen
    walk_at "rd"
    refine ⟨_, .of upd_same, rfl, ?_⟩
    walk_at "rd"
    have eT := e.trans (same_upd (o := .tup [V.int i, ovV en]) hT)
    cases en with
    | none =>
      cases hn rfl
      simp only [ovV, decide_true, ite_true, exists_eq_left', true_and, and_true]
      exact ⟨_, _, ⟨rfl, rfl⟩, eT⟩
    | some k =>
      have hk := hi k rfl
      cases b <;> simp only [ovV, reduceCtorEq, decide_false, Bool.false_eq_true, ite_false, ite_true]
      all_goals
        refine ⟨k, _, _, rfl, ?_⟩
        rw [decide_eq_true (show -9999 ≤ k ∧ k ≤ 9999 from hk)]
        walk_at "rd"
        exact ⟨_, _, ⟨rfl, rfl⟩, eT⟩
  · obtain ⟨x3, x4, rfl, e⟩ := p
    walk_at "rd"
    refine ⟨_, .inr (sqt_same e ha), rfl, ?_⟩
    rw [decide_eq_true (show (((es.map ovV).length : Nat) : Int) = n by rw [hl']; exact hl)]
    walk_at "rd"
    exact q _ e
/-- the value v is positions -/
def IntsT (K : PySem.W.Frag) (H : Hp) (v : V) (xs : List Int) : Prop := ∃ a, v = .ref a ∧ SqT K H a (xs.map V.int)
theorem IntsT.mono {H H' : Hp} {v : V} {xs : List Int} (h : IntsT K H v xs) (e : Same H H') : IntsT K H' v xs := by
  obtain ⟨c, rfl, h⟩ := h
  exact ⟨c, rfl, sqt_same e h⟩
def OptsT (K : PySem.W.Frag) (H : Hp) (v : V) (xs : List (Option Int)) : Prop := ∃ a, v = .ref a ∧ SqT K H a (xs.map ovV)
theorem OptsT.mono {H H' : Hp} {v : V} {xs : List (Option Int)} (h : OptsT K H v xs) (e : Same H H') : OptsT K H' v xs := by
  obtain ⟨c, rfl, h⟩ := h
  exact ⟨c, rfl, sqt_same e h⟩
theorem FleetV.mono {H H' : Hp} {v : V} {n : Int} {rs : List Rope} (h : FleetV K H v n rs) (e : Same H H') : FleetV K H' v n rs := by
  obtain ⟨a, b, xs, rfl, ha, hb, hl, hx⟩ := h
  refine ⟨a, b, xs, rfl, sqt_same e ha, sqt_same e hb, hl, fun i r hr => ?_⟩
  obtain ⟨u, hu, hv⟩ := hx i r hr
  exact ⟨u, hu, hv.mono e⟩
def InRange (xs : List Int) : Prop := ∀ x ∈ xs, -9999 ≤ x ∧ x ≤ 9999
theorem some_map (xs : List Int) : (xs.map some).map ovV = xs.map V.int := by
  rw [List.map_map]
  rfl
def s_check_positions : Stmt := topS 21
abbrev n_check_positions : List Str := ["fleet", "positions", "index"]
abbrev p_check_positions : List Str := ["fleet", "positions"]
theorem sc_check_positions : FnScope n_check_positions p_check_positions (defScope s_check_positions) := ⟨rfl, rfl, rfl, by decide +kernel, rfl, by decide +kernel, by decide +kernel⟩
def sp_check_positions (K : PySem.W.Frag) : Sp := fun vs H Q _ => ∃ (v u : V) (n : Int) (rs : List Rope) (xs : List Int), vs = [v, u] ∧ FleetV K H v n rs ∧ IntsT K H u xs ∧ (xs.length : Int) = n ∧ InRange xs ∧ ∀ H', Same H H' → Q .non H'
theorem df_check_positions (T : Here K mg "check_positions" s_check_positions)
    (D_first_wrong_entry : Df P w K mg base CX0 "first_wrong_entry" 2 p_first_wrong_entry (sp_first_wrong_entry K)) : Df P w K mg base CX0 "check_positions" 3 p_check_positions (sp_check_positions K) := by
  refine T.df sc_check_positions (fun _ _ _ _ _ _ us hl => match us, hl with | [_, _], _ => rfl) (fun vs H Q E h => by obtain ⟨_, _, _, _, _, rfl, _⟩ := h; rfl) (fun f cdv A outer s H vs Q E hr h => ?_)
  obtain ⟨v, u, n, rs, xs, rfl, ⟨a, b, ys, rfl, ha, hb, hl, hx⟩, ⟨c, rfl, hc⟩, hn, hir, q⟩ := h
  refine ⟨_, pss_cons (ps_set (i := 2) sc_check_positions.nd rfl (by first | exact Or.inl rfl | exact Or.inr rfl) (D_first_wrong_entry.call (hr.mono (by decide)) (by rfl) (pa_cons (pv 1) (pa_cons (pe_ix (ixT K rfl) (pv 0) (pe_int) (fun _ _ => rfl)) (pa_cons (pe_bl) pa_nil)))))
      (pss_one (ps_if (pt_cmpR op_notN (pv 2) (pe_non) (nomark _)) (pss_one (ps_never)) (pss_nil))), ?_⟩
  walk_at "rd"
  refine ⟨a, _, 0, _, rfl, rfl, ha, atI_nat (j := 0) rfl, ?_⟩
  walk_at "rd"
  refine ⟨c, xs.map some, n, false, rfl, by rw [some_map]; exact hc, by rw [List.length_map]; exact hn, fun e he => ?_, fun H1 s1 => ?_⟩
  · obtain ⟨x, hx', rfl⟩ := List.mem_map.mp he
    refine ⟨(fun h => by cases h), fun i h => ?_⟩
    cases h
    exact hir x hx'
  · walk_at "rd"
    exact q _ s1
def OptOk (es : List (Option Int)) : Prop := ∀ e ∈ es, ∀ i, e = some i → -9999 ≤ i ∧ i ≤ 9999
end
end Hx

set_option Elab.async false
set_option linter.all false
set_option maxRecDepth 100000
set_option maxHeartbeats 4000000
namespace Hx
open PySem PySem.Spec PyProof.Rows L2
local macro_rules | `(tactic| walk_at "rd") => `(tactic| (try simp only [q_var, q_c, q_op, q_un, q_rI, q_rI0, q_rU, q_rEq, q_rNe, q_test, q_tB, q_and, q_or, q_not, q_andV, q_orV, q_notV, q_if, q_isN, q_notN, q_chain, q_next, q_seq, q_break, q_cont, q_drop, q_ret, q_retN, q_ifS, q_never, q_gN, q_gNil, q_gCons, q_gTup, q_gSub, q_asg, q_par, q_aug, q_nil, q_cons, q_tup, q_lst, q_call, q_cb, q_noPart, q_part, q_sl, q_bm0, q_bm, q_yes, q_for, q_lc, q_iList, q_iTup, q_iRng1, q_iEnumT, q_iEnum, q_iRng2, q_iZipA, q_iZipM, q_ipI, q_ckw, q_len, q_listOf, q_tupleOf, L2.start, cx_K, wipe, List.map_cons, List.map_nil, List.length_cons, List.length_nil, List.cons_append, List.nil_append, List.append_nil, List.replicate, List.getElem?_cons_zero, List.getElem?_cons_succ, List.set_cons_zero, List.set_cons_succ, Option.some.injEq, List.cons.injEq, exists_eq_left', exists_eq_left, exists_and_left, V.int.injEq, V.bl.injEq, V.ref.injEq, if_true, if_false, Bool.not_true, Bool.not_false, true_and, and_true, Bool.false_eq_true, ite_true, ite_false, Nat.reduceAdd, Nat.reduceSub, reduceCtorEq, decide_false, decide_true, Int.toNat_natCast, false_and, exists_false, or_false, false_or]))
section
variable {P : Program} {w : World} {K : PySem.W.Frag} {mg : Str → Option Value} {base : Heap}
/-- positions hold a rope -/
def Holds1 (xs : List Int) (r : Rope) : Prop := xs.getD r.f.toNat 0 - xs.getD r.r.toNat 0 ≤ r.l
def Valid (xs : List Int) (rs : List Rope) : Prop := ∀ r ∈ rs, Holds1 xs r
theorem at_int {xs : List Int} {i : Int} (h0 : 0 ≤ i) (h1 : i < xs.length) : atI (xs.map V.int) i = some (.int (xs.getD i.toNat 0)) := by
  have e : i = (i.toNat : Int) := (Int.toNat_of_nonneg h0).symm
  have hlt : i.toNat < xs.length := by omega
  refine at_of e ?_
  rw [List.getElem?_map, List.getElem?_eq_getElem hlt, List.getD_eq_getElem?_getD, List.getElem?_eq_getElem hlt]
  rfl
def s_unsatisfied_ropes : Stmt := topS 22
abbrev n_unsatisfied_ropes : List Str := ["fleet", "positions", "found", "index", "front", "rear", "length"]
abbrev p_unsatisfied_ropes : List Str := ["fleet", "positions"]
theorem sc_unsatisfied_ropes : FnScope n_unsatisfied_ropes p_unsatisfied_ropes (defScope s_unsatisfied_ropes) := ⟨rfl, rfl, rfl, by decide +kernel, rfl, by decide +kernel, by decide +kernel⟩
def sp_unsatisfied_ropes (K : PySem.W.Frag) : Sp := fun vs H Q _ => ∃ (v u : V) (n : Int) (rs : List Rope) (xs : List Int), vs = [v, u] ∧ FleetV K H v n rs ∧ IntsT K H u xs ∧ (xs.length : Int) = n ∧ (∀ r ∈ rs, RopeOk n r) ∧ Valid xs rs ∧
  ∀ H' p, Same H H' → H p = none → H' p = some (.lst []) → Q (.ref p) H'
theorem df_unsatisfied_ropes (T : Here K mg "unsatisfied_ropes" s_unsatisfied_ropes) (B : Blt mg) : Df P w K mg base CX0 "unsatisfied_ropes" 1 p_unsatisfied_ropes (sp_unsatisfied_ropes K) := by
  refine T.df sc_unsatisfied_ropes (fun _ _ _ _ _ _ us hl => match us, hl with | [_, _], _ => rfl) (fun vs H Q E h => by obtain ⟨_, _, _, _, _, rfl, _⟩ := h; rfl) (fun f cdv A outer s H vs Q E hr h => ?_)
  obtain ⟨v, u, n, rs, xs, rfl, ⟨a, b, ys, rfl, ha, hb, hl, hx⟩, ⟨c, rfl, hc⟩, hn, hok, hv, q⟩ := h
  refine ⟨_, pss_cons (ps_set (i := 2) sc_unsatisfied_ropes.nd rfl (by first | exact Or.inl rfl | exact Or.inr rfl) (pe_lst (pa_nil)))
      (pss_cons (ps_for PassesOwn.never rfl (pi_enumT (by rfl) B.enumerate (pa_cons (pe_ix (ixT K rfl) (pv 0) (pe_int) (fun _ _ => rfl)) pa_nil)) (pgTup K rfl (n := 2) rfl (pgs_cons (pg_name (i := 3) sc_unsatisfied_ropes.nd rfl (by first | exact Or.inl rfl | exact Or.inr rfl)) (pgs_cons (pgTup K rfl (n := 3) rfl (pgs_cons (pg_name (i := 4) sc_unsatisfied_ropes.nd rfl (by first | exact Or.inl rfl | exact Or.inr rfl)) (pgs_cons (pg_name (i := 5) sc_unsatisfied_ropes.nd rfl (by first | exact Or.inl rfl | exact Or.inr rfl)) (pgs_cons (pg_name (i := 6) sc_unsatisfied_ropes.nd rfl (by first | exact Or.inl rfl | exact Or.inr rfl)) pgs_nil)))) pgs_nil))) (pss_one (ps_if (pt_cmpR op_gt (pe_op op_sub (pe_ix (ixT K rfl) (pv 1) (pv 4) (fun _ _ => rfl)) (pe_ix (ixT K rfl) (pv 1) (pv 5) (fun _ _ => rfl))) (pv 6) (nomark _)) (pss_one (ps_expr (pe_bm PySem.F.plainAttrs_list PySem.F.slot_list_append PySem.F.type_list_append mt_append (pv 2) (pa_cons (pv 3) pa_nil)))) (pss_nil))))
      (pss_one (ps_ret (pv 2)))), ?_⟩
  walk_at "rd"
  refine ⟨Nat.zero_le _, fun p hp => ?_⟩
  have s0 := same_upd (o := .lst []) hp
  walk_at "rd"
  refine ⟨a, _, 1, _, rfl, rfl, sqt_same s0 ha, atI_nat (j := 1) rfl, ?_⟩
  walk_at "rd"
  refine ⟨⟨_, sqt_same s0 hb⟩, ?_⟩
  refine forEnumT (xs := ys) (fun i σ H' => ∃ x3 x4 x5 x6, σ = [some (.ref a), some (.ref c), some (.ref p), x3, x4, x5, x6] ∧ Same (upd H p (.lst [])) H') ⟨_, _, _, _, rfl, .refl _⟩ (fun i σ H' _ p => ?_) (fun i x T σ H' hx' pp hT => ?_) (fun σ H' pp => ?_)
  · obtain ⟨_, _, _, _, _, e⟩ := p
    exact sqt_same (s0.trans e) hb
  · obtain ⟨x3, x4, x5, x6, rfl, e⟩ := pp
    have hi : i < rs.length := by
      rw [← hl]
      exact (List.getElem?_eq_some_iff.mp hx').1
    obtain ⟨u, hu, d, rfl, hd⟩ := hx i rs[i] (List.getElem?_eq_getElem hi)
    cases hx'.symm.trans hu
    have e1 := s0.trans e
    have eT := same_upd (o := .tup [V.int i, V.ref d]) hT
    obtain ⟨h1, h2, h3, h4, h5, h6, h7⟩ := hok _ (List.getElem_mem hi)
    have hv1 := hv _ (List.getElem_mem hi)
    walk_at "rd"
    refine ⟨_, .of upd_same, rfl, ?_⟩
    walk_at "rd"
    refine ⟨_, sqt_same (e1.trans eT) hd, rfl, ?_⟩
    walk_at "rd"
    refine ⟨c, _, _, _, rfl, rfl, sqt_same (e1.trans eT) hc, at_int h1 (by omega), ?_⟩
    refine ⟨c, _, _, _, rfl, rfl, sqt_same (e1.trans eT) hc, at_int h3 (by omega), ?_⟩
    walk_at "rd"
    rw [decide_eq_false (show ¬ rs[i].l < xs.getD rs[i].f.toNat 0 - xs.getD rs[i].r.toNat 0 by
      have := hv1
      unfold Holds1 at this
      omega)]
    walk_at "rd"
    exact ⟨_, _, _, _, ⟨rfl, rfl, rfl, rfl⟩, e.trans eT⟩
  · obtain ⟨x3, x4, x5, x6, rfl, e⟩ := pp
    walk_at "rd"
    exact q _ p (s0.trans e) hp (e _ _ upd_same)
def s_check_valid : Stmt := topS 23
abbrev n_check_valid : List Str := ["fleet", "positions", "broken"]
abbrev p_check_valid : List Str := ["fleet", "positions"]
theorem sc_check_valid : FnScope n_check_valid p_check_valid (defScope s_check_valid) := ⟨rfl, rfl, rfl, by decide +kernel, rfl, by decide +kernel, by decide +kernel⟩
def sp_check_valid (K : PySem.W.Frag) : Sp := fun vs H Q _ => ∃ (v u : V) (n : Int) (rs : List Rope) (xs : List Int), vs = [v, u] ∧ FleetV K H v n rs ∧ IntsT K H u xs ∧ (xs.length : Int) = n ∧ InRange xs ∧ (∀ r ∈ rs, RopeOk n r) ∧ Valid xs rs ∧
  ∀ H', Same H H' → Q .non H'
theorem df_check_valid (T : Here K mg "check_valid" s_check_valid) (B : Blt mg) (D_check_positions : Df P w K mg base CX0 "check_positions" 3 p_check_positions (sp_check_positions K))
    (D_unsatisfied_ropes : Df P w K mg base CX0 "unsatisfied_ropes" 1 p_unsatisfied_ropes (sp_unsatisfied_ropes K)) : Df P w K mg base CX0 "check_valid" 4 p_check_valid (sp_check_valid K) := by
  refine T.df sc_check_valid (fun _ _ _ _ _ _ us hl => match us, hl with | [_, _], _ => rfl) (fun vs H Q E h => by obtain ⟨_, _, _, _, _, rfl, _⟩ := h; rfl) (fun f cdv A outer s H vs Q E hr h => ?_)
  obtain ⟨v, u, n, rs, xs, rfl, hv, hu, hn, hr', hok, hva, q⟩ := h
  refine ⟨_, pss_cons (ps_expr (D_check_positions.call (hr.mono (by decide)) (by rfl) (pa_cons (pv 0) (pa_cons (pv 1) pa_nil))))
      (pss_cons (ps_set (i := 2) sc_check_valid.nd rfl (by first | exact Or.inl rfl | exact Or.inr rfl) (D_unsatisfied_ropes.call (hr.mono (by decide)) (by rfl) (pa_cons (pv 0) (pa_cons (pv 1) pa_nil))))
      (pss_one (ps_if (pt_cmpR op_gt (pe_callB (lenQ K rfl) (by rfl) B.len (by decide +kernel) (pa_cons (pv 2) pa_nil)) (pe_int) (nomark _)) (pss_one (ps_never)) (pss_nil)))), ?_⟩
  walk_at "rd"
  refine ⟨v, u, n, rs, xs, rfl, hv, hu, hn, hr', fun H1 s1 => ?_⟩
  walk_at "rd"
  refine ⟨v, u, n, rs, xs, rfl, hv.mono s1, hu.mono s1, hn, hok, hva, fun H2 p s2 hp hp2 => ?_⟩
  walk_at "rd"
  refine ⟨_, .inl (.of hp2), ?_⟩
  walk_at "rd"
  exact q _ (s1.trans s2)
end
end Hx

set_option Elab.async false
set_option linter.all false
set_option maxRecDepth 100000
set_option maxHeartbeats 4000000
namespace Hx
open PySem PySem.Spec PyProof.Rows L2
local macro_rules | `(tactic| walk_at "rd") => `(tactic| (try simp only [q_var, q_c, q_op, q_un, q_rI, q_rI0, q_rU, q_rEq, q_rNe, q_test, q_tB, q_and, q_or, q_not, q_andV, q_orV, q_notV, q_if, q_isN, q_notN, q_chain, q_next, q_seq, q_break, q_cont, q_drop, q_ret, q_retN, q_ifS, q_never, q_gN, q_gNil, q_gCons, q_gTup, q_gSub, q_asg, q_par, q_aug, q_nil, q_cons, q_tup, q_lst, q_call, q_cb, q_noPart, q_part, q_sl, q_bm0, q_bm, q_yes, q_for, q_lc, q_iList, q_iTup, q_iRng1, q_iEnumT, q_iEnum, q_iRng2, q_iZipA, q_iZipM, q_ipI, q_ckw, q_len, q_listOf, q_tupleOf, L2.start, cx_K, wipe, List.map_cons, List.map_nil, List.length_cons, List.length_nil, List.cons_append, List.nil_append, List.append_nil, List.replicate, List.getElem?_cons_zero, List.getElem?_cons_succ, List.set_cons_zero, List.set_cons_succ, Option.some.injEq, List.cons.injEq, exists_eq_left', exists_eq_left, exists_and_left, V.int.injEq, V.bl.injEq, V.ref.injEq, if_true, if_false, Bool.not_true, Bool.not_false, true_and, and_true, Bool.false_eq_true, ite_true, ite_false, Nat.reduceAdd, Nat.reduceSub, reduceCtorEq, decide_false, decide_true, Int.toNat_natCast, false_and, exists_false, or_false, false_or]))
/-- row i of the table d, n wide -/
def rowV (n : Nat) (d : Tab) (i : Nat) : List V := (List.range n).map fun j => ovV (d i j)
theorem rowV_len (n : Nat) (d : Tab) (i : Nat) : (rowV n d i).length = n := by
  unfold rowV
  rw [List.length_map, List.length_range]
theorem rowV_at {n : Nat} (d : Tab) (i : Nat) {j : Nat} (h : j < n) : (rowV n d i)[j]? = some (ovV (d i j)) := by
  unfold rowV
  rw [List.getElem?_map, List.getElem?_range h]
  rfl
theorem rowV_set (n : Nat) (d : Tab) (i j : Nat) (l : Int) : (rowV n d i).set j (.int l) = rowV n (setD d i j l) i := by
  refine List.ext_getElem? fun k => ?_
  by_cases hk : k < n
  · rw [rowV_at _ _ hk]
    by_cases e : j = k
    · subst e
      rw [List.getElem?_set_self (by rw [rowV_len]; exact hk), setD_at]
      rfl
    · rw [List.getElem?_set_ne e, rowV_at _ _ hk, setD_ne]
      rintro ⟨_, h⟩
      exact e h.symm
  · rw [List.getElem?_eq_none (by rw [List.length_set, rowV_len]; omega), List.getElem?_eq_none (by rw [rowV_len]; omega)]
theorem rowV_other (n : Nat) (d : Tab) {i a : Nat} (j : Nat) (l : Int) (h : a ≠ i) : rowV n (setD d i j l) a = rowV n d a := by
  unfold rowV
  refine List.map_congr_left fun k _ => ?_
  rw [setD_ne]
  rintro ⟨e, _⟩
  exact h e
/-- the table d stands at t, its rows at as -/
structure TabAt (H : Hp) (t : Addr) (as : List Addr) (n : Nat) (d : Tab) : Prop where
  top : H t = some (.lst (as.map V.ref))
  len : as.length = n
  nd : as.Nodup
  nt : t ∉ as
  row : ∀ i a, as[i]? = some a → H a = some (.lst (rowV n d i))
theorem TabAt.get {H : Hp} {t : Addr} {as : List Addr} {n : Nat} {d : Tab} (h : TabAt H t as n d) {i : Nat} (hi : i < n) : ∃ a, as[i]? = some a ∧ (as.map V.ref)[i]? = some (.ref a) ∧ H a = some (.lst (rowV n d i)) := by
  have hl : i < as.length := by
    rw [h.len]
    exact hi
  have e : as[i]? = some as[i] := List.getElem?_eq_getElem hl
  refine ⟨_, e, ?_, h.row i _ e⟩
  rw [List.getElem?_map, e]
  rfl
theorem TabAt.put {H : Hp} {t : Addr} {as : List Addr} {n : Nat} {d : Tab} (h : TabAt H t as n d) {i : Nat} {a : Addr} (ha : as[i]? = some a) (j : Nat) (l : Int) :
    TabAt (upd H a (.lst ((rowV n d i).set j (.int l)))) t as n (setD d i j l) where
  top := by
    rw [upd_ne (fun e => h.nt (by rw [e]; exact List.mem_of_getElem? ha))]
    exact h.top
  len := h.len
  nd := h.nd
  nt := h.nt
  row := fun k b hb => by
    by_cases e : k = i
    · subst e
      rw [ha] at hb
      cases hb
      rw [upd_same, rowV_set]
    · rw [upd_ne (fun z => e (nd_ix h.nd hb (by rw [z]; exact ha))), rowV_other n d j l e]
      exact h.row k b hb
theorem TabAt.congr {H : Hp} {t : Addr} {as : List Addr} {n : Nat} {d d' : Tab} (h : TabAt H t as n d) (e : ∀ i j, i < n → j < n → d i j = d' i j) : TabAt H t as n d' :=
  ⟨h.top, h.len, h.nd, h.nt, fun i a ha => by
    have hi : i < n := by
      rw [← h.len]
      exact (List.getElem?_eq_some_iff.mp ha).1
    rw [h.row i a ha]
    unfold rowV
    rw [List.map_congr_left fun k hk => by rw [e i k hi (List.mem_range.mp hk)]]⟩
theorem TabAt.mono {H H' : Hp} {t : Addr} {as : List Addr} {n : Nat} {d : Tab} (h : TabAt H t as n d) (e : Same H H') : TabAt H' t as n d :=
  ⟨e _ _ h.top, h.len, h.nd, h.nt, fun i a ha => e _ _ (h.row i a ha)⟩
/-- all that was tracked but what stands at as is as it was -/
def ButL (as : List Addr) (H H' : Hp) : Prop := ∀ b o, b ∉ as → H b = some o → H' b = some o
section
variable {P : Program} {w : World} {K : PySem.W.Frag} {mg : Str → Option Value} {base : Heap}
theorem nat_at {i : Int} (h0 : 0 ≤ i) : ∃ k : Nat, i = k := ⟨i.toNat, (Int.toNat_of_nonneg h0).symm⟩
theorem ix_nat {k n : Nat} (h : k < n) : ixN n (k : Int) = some k := by
  unfold ixN
  rw [if_pos (by omega), if_pos (by omega), Int.toNat_natCast]
def s_keep_less : Stmt := topS 28
abbrev n_keep_less : List Str := ["table", "front", "rear", "length"]
abbrev p_keep_less : List Str := ["table", "front", "rear", "length"]
theorem sc_keep_less : FnScope n_keep_less p_keep_less (defScope s_keep_less) := ⟨rfl, rfl, rfl, by decide +kernel, rfl, by decide +kernel, by decide +kernel⟩
def sp_keep_less (K : PySem.W.Frag) : Sp := fun vs H Q _ => ∃ (t : Addr) (as : List Addr) (n : Nat) (d : Tab) (f r : Nat) (l : Int), vs = [.ref t, .int f, .int r, .int l] ∧ TabAt H t as n d ∧ f < n ∧ r < n ∧
  ∀ H', TabAt H' t as n (keepD d f r l) → ButL as H H' → Q .non H'
theorem df_keep_less (T : Here K mg "keep_less" s_keep_less) : Df P w K mg base CX0 "keep_less" 1 p_keep_less (sp_keep_less K) := by
  refine T.df sc_keep_less (fun _ _ _ _ _ _ us hl => match us, hl with | [_, _, _, _], _ => rfl) (fun vs H Q E h => by obtain ⟨_, _, _, _, _, _, _, rfl, _⟩ := h; rfl) (fun f cdv A outer s H vs Q E hr h => ?_)
  obtain ⟨t, as, n, d, f, r, l, rfl, ht, hf, hr', q⟩ := h
  refine ⟨_, pss_one (ps_if (PW.pt (pw_or (pt_cmpR op_isN (pe_ix (ixL K rfl) (pe_ix (ixL K rfl) (pv 0) (pv 1) (fun _ _ => rfl)) (pv 2) (fun _ _ => rfl)) (pe_non) (nomark _)) (pw_or1 (pt_cmpR op_lt (pv 3) (pe_ix (ixL K rfl) (pe_ix (ixL K rfl) (pv 0) (pv 1) (fun _ _ => rfl)) (pv 2) (fun _ _ => rfl)) (nomark _))))) (pss_one (ps_asg (pv 3) (pg_sub (pe_ix (ixL K rfl) (pv 0) (pv 1) (fun _ _ => rfl)) (pv 2) set_list))) (pss_nil)), ?_⟩
  obtain ⟨a, ha, ham, hrow⟩ := ht.get hf
  have set_ : ∀ Q' : Prop, (Q' = (∀ H', TabAt H' t as n (setD d f r l) → ButL as H H' → Q .non H')) → Q' → Q .non (upd H a (.lst ((rowV n d f).set r (.int l)))) := by
    rintro _ rfl k
    refine k _ (ht.put ha r l) fun b o hb e => ?_
    rw [upd_ne (fun z => hb (by rw [z]; exact List.mem_of_getElem? ha))]
    exact e
  walk_at "rd"
  refine ⟨t, _, _, _, rfl, rfl, .of ht.top, atI_nat ham, a, _, _, _, rfl, rfl, .of hrow, atI_nat (rowV_at d f hr'), ?_⟩
  walk_at "rd"
  rcases keep_cases d f r l with ⟨e, h⟩ | ⟨e, x, ex, hx⟩ <;> rw [e] at q
  · cases hd : d f r with
    | none =>
      simp only [ovV, decide_true, ite_true]
      refine ⟨t, _, _, _, rfl, rfl, .of ht.top, atI_nat ham, a, _, _, _, rfl, rfl, hrow, ix_nat (by rw [rowV_len]; exact hr'), set_ _ rfl q⟩
    | some x =>
      simp only [ovV, reduceCtorEq, decide_false, Bool.false_eq_true, ite_false]
      refine ⟨t, _, _, _, rfl, rfl, .of ht.top, atI_nat ham, a, _, _, _, rfl, rfl, .of hrow, atI_nat (rowV_at d f hr'), ?_⟩
      rw [hd]
      simp only [ovV, q_rI0, exists_eq_left', V.bl.injEq, decide_eq_true (h x hd), ite_true]
      refine ⟨t, _, _, _, rfl, rfl, .of ht.top, atI_nat ham, a, _, _, _, rfl, rfl, hrow, ix_nat (by rw [rowV_len]; exact hr'), set_ _ rfl q⟩
  · rw [ex]
    simp only [ovV, reduceCtorEq, decide_false, Bool.false_eq_true, ite_false]
    refine ⟨t, _, _, _, rfl, rfl, .of ht.top, atI_nat ham, a, _, _, _, rfl, rfl, .of hrow, atI_nat (rowV_at d f hr'), ?_⟩
    rw [ex]
    simp only [ovV, q_rI0, exists_eq_left', V.bl.injEq, decide_eq_false (show ¬ l < x by omega), Bool.false_eq_true, ite_false]
    exact q _ ht fun _ _ _ h => h
end
end Hx

set_option Elab.async false
set_option linter.all false
set_option maxRecDepth 100000
set_option maxHeartbeats 4000000
namespace Hx
open PySem PySem.Spec PyProof.Rows L2
local macro_rules | `(tactic| walk_at "rd") => `(tactic| (try simp only [q_var, q_c, q_op, q_un, q_rI, q_rI0, q_rU, q_rEq, q_rNe, q_test, q_tB, q_and, q_or, q_not, q_andV, q_orV, q_notV, q_if, q_isN, q_notN, q_chain, q_next, q_seq, q_break, q_cont, q_drop, q_ret, q_retN, q_ifS, q_never, q_gN, q_gNil, q_gCons, q_gTup, q_gSub, q_asg, q_par, q_aug, q_nil, q_cons, q_tup, q_lst, q_call, q_cb, q_noPart, q_part, q_sl, q_bm0, q_bm, q_yes, q_for, q_lc, q_iList, q_iTup, q_iRng1, q_iEnumT, q_iEnum, q_iRng2, q_iZipA, q_iZipM, q_ipI, q_ckw, q_len, q_listOf, q_tupleOf, L2.start, cx_K, wipe, List.map_cons, List.map_nil, List.length_cons, List.length_nil, List.cons_append, List.nil_append, List.append_nil, List.replicate, List.getElem?_cons_zero, List.getElem?_cons_succ, List.set_cons_zero, List.set_cons_succ, Option.some.injEq, List.cons.injEq, exists_eq_left', exists_eq_left, exists_and_left, V.int.injEq, V.bl.injEq, V.ref.injEq, if_true, if_false, Bool.not_true, Bool.not_false, true_and, and_true, Bool.false_eq_true, ite_true, ite_false, Nat.reduceAdd, Nat.reduceSub, reduceCtorEq, decide_false, decide_true, Int.toNat_natCast, false_and, exists_false, or_false, false_or]))
/-- a table that is new since H0 -/
structure TabNew (H0 H : Hp) (t : Addr) (as : List Addr) (n : Nat) (d : Tab) : Prop where
  same : Same H0 H
  ft : H0 t = none
  fa : ∀ a ∈ as, H0 a = none
  tab : TabAt H t as n d
theorem TabNew.step {H0 H H' : Hp} {t : Addr} {as : List Addr} {n : Nat} {d d' : Tab} (h : TabNew H0 H t as n d) (h' : TabAt H' t as n d') (k : ButL as H H') : TabNew H0 H' t as n d' :=
  ⟨fun b o e => k b o (fun m => by rw [h.fa b m] at e; cases e) (h.same b o e), h.ft, h.fa, h'⟩
theorem butL_upd {H : Hp} {as : List Addr} {a : Addr} {o : HO} (h : a ∈ as) : ButL as H (upd H a o) := fun b u hb e => by
  rw [upd_ne (fun z => hb (by rw [z]; exact h))]
  exact e
theorem rep_flat (n : Nat) (v : V) : (List.replicate n [v]).flatten = List.replicate n v := by
  induction n with
  | zero => rfl
  | succ k ih => rw [List.replicate_succ, List.flatten_cons, ih, List.replicate_succ]; rfl
theorem rowV_none (n : Nat) (d : Tab) (i : Nat) (h : ∀ j, j < n → d i j = none) : List.replicate n V.non = rowV n d i := by
  refine List.ext_getElem? fun k => ?_
  by_cases hk : k < n
  · rw [rowV_at _ _ hk, h k hk, List.getElem?_replicate, if_pos hk]
    rfl
  · rw [List.getElem?_eq_none (by rw [List.length_replicate]; omega), List.getElem?_eq_none (by rw [rowV_len]; omega)]
def diagD (k : Nat) : Tab := fun a b => if a = b ∧ a < k then some 0 else none
theorem diag_step (i x y : Nat) : setD (diagD i) i i 0 x y = diagD (i + 1) x y := by
  by_cases e : x = i ∧ y = i
  · obtain ⟨rfl, rfl⟩ := e
    rw [setD_at]
    exact (if_pos ⟨rfl, Nat.lt_succ_self _⟩).symm
  · rw [setD_ne _ _ e]
    show (if x = y ∧ x < i then some 0 else none) = if x = y ∧ x < i + 1 then some (0 : Int) else none
    by_cases e' : x = y ∧ x < i
    · rw [if_pos e', if_pos (by omega)]
    · rw [if_neg e', if_neg (by omega)]
section
variable {P : Program} {w : World} {K : PySem.W.Frag} {mg : Str → Option Value} {base : Heap}
def s_chain_table : Stmt := topS 27
abbrev n_chain_table : List Str := ["fleet", "count", "ropes", "table", "_", "barge", "front", "rear", "length", "middle"]
abbrev p_chain_table : List Str := ["fleet"]
theorem sc_chain_table : FnScope n_chain_table p_chain_table (defScope s_chain_table) := ⟨rfl, rfl, rfl, by decide +kernel, rfl, by decide +kernel, by decide +kernel⟩
def sp_chain_table (K : PySem.W.Frag) : Sp := fun vs H Q _ => ∃ (v : V) (n : Nat) (rs : List Rope), vs = [v] ∧ FleetV K H v n rs ∧ FleetOk n rs ∧ ∀ H' t as, TabNew H H' t as n (chainTab n rs) → Q (.ref t) H'
theorem df_chain_table (T : Here K mg "chain_table" s_chain_table) (B : Blt mg) (D_keep_less : Df P w K mg base CX0 "keep_less" 1 p_keep_less (sp_keep_less K)) : Df P w K mg base CX0 "chain_table" 2 p_chain_table (sp_chain_table K) := by
  refine T.df sc_chain_table (fun _ _ _ _ _ _ us hl => match us, hl with | [_], _ => rfl) (fun vs H Q E h => by obtain ⟨_, _, _, rfl, _⟩ := h; rfl) (fun f cdv A outer s H vs Q E hr h => ?_)
  obtain ⟨v, n, rs, rfl, ⟨a, b, ys, rfl, ha, hb, hl, hx⟩, ⟨h1, h2, h3, h4⟩, q⟩ := h
  refine ⟨_, pss_cons (ps_asg (pv 0) (pgTup K rfl (n := 2) rfl (pgs_cons (pg_name (i := 1) sc_chain_table.nd rfl (by first | exact Or.inl rfl | exact Or.inr rfl)) (pgs_cons (pg_name (i := 2) sc_chain_table.nd rfl (by first | exact Or.inl rfl | exact Or.inr rfl)) pgs_nil))))
      (pss_cons (ps_setLc (i := 3) (own := [("_", 4)]) rfl sc_chain_table.nd rfl rfl (sw_true rfl rfl rfl (by decide +kernel)) (pi_range1 (by rfl) B.range (pa_cons (pv 1) pa_nil)) (blkOk_by (N := n_chain_table) (sc := defScope s_chain_table) (by decide +kernel)) (fun _ _ _ _ _ => pg_name (i := 4) sc_chain_table.nd rfl (by first | exact Or.inl rfl | exact Or.inr rfl)) (fun _ _ _ _ _ => pts_nil) (fun _ _ _ _ _ => pe_op op_rep (pe_lst (pa_cons (pe_non) pa_nil)) (pv 1)))
      (pss_cons (ps_for PassesOwn.never rfl (pi_range1 (by rfl) B.range (pa_cons (pv 1) pa_nil)) (pg_name (i := 5) sc_chain_table.nd rfl (by first | exact Or.inl rfl | exact Or.inr rfl)) (pss_one (ps_asg (pe_int) (pg_sub (pe_ix (ixL K rfl) (pv 3) (pv 5) (fun _ _ => rfl)) (pv 5) set_list))))
      (pss_cons (ps_for PassesOwn.never rfl (piTup K rfl (pv 2)) (pgTup K rfl (n := 3) rfl (pgs_cons (pg_name (i := 6) sc_chain_table.nd rfl (by first | exact Or.inl rfl | exact Or.inr rfl)) (pgs_cons (pg_name (i := 7) sc_chain_table.nd rfl (by first | exact Or.inl rfl | exact Or.inr rfl)) (pgs_cons (pg_name (i := 8) sc_chain_table.nd rfl (by first | exact Or.inl rfl | exact Or.inr rfl)) pgs_nil)))) (pss_one (ps_expr (D_keep_less.call (hr.mono (by decide)) (by rfl) (pa_cons (pv 3) (pa_cons (pv 6) (pa_cons (pv 7) (pa_cons (pv 8) pa_nil))))))))
      (pss_cons (ps_for PassesOwn.never rfl (pi_range1 (by rfl) B.range (pa_cons (pv 1) pa_nil)) (pg_name (i := 9) sc_chain_table.nd rfl (by first | exact Or.inl rfl | exact Or.inr rfl)) (pss_one (ps_for PassesOwn.never rfl (pi_range1 (by rfl) B.range (pa_cons (pv 1) pa_nil)) (pg_name (i := 6) sc_chain_table.nd rfl (by first | exact Or.inl rfl | exact Or.inr rfl)) (pss_one (ps_for PassesOwn.never rfl (pi_range1 (by rfl) B.range (pa_cons (pv 1) pa_nil)) (pg_name (i := 7) sc_chain_table.nd rfl (by first | exact Or.inl rfl | exact Or.inr rfl)) (pss_one (ps_if (PW.pt (pw_and (pt_cmpR op_notN (pe_ix (ixL K rfl) (pe_ix (ixL K rfl) (pv 3) (pv 6) (fun _ _ => rfl)) (pv 9) (fun _ _ => rfl)) (pe_non) (nomark _)) (pw_and1 (pt_cmpR op_notN (pe_ix (ixL K rfl) (pe_ix (ixL K rfl) (pv 3) (pv 9) (fun _ _ => rfl)) (pv 7) (fun _ _ => rfl)) (pe_non) (nomark _))))) (pss_one (ps_expr (D_keep_less.call (hr.mono (by decide)) (by rfl) (pa_cons (pv 3) (pa_cons (pv 6) (pa_cons (pv 7) (pa_cons (pe_op op_add (pe_ix (ixL K rfl) (pe_ix (ixL K rfl) (pv 3) (pv 6) (fun _ _ => rfl)) (pv 9) (fun _ _ => rfl)) (pe_ix (ixL K rfl) (pe_ix (ixL K rfl) (pv 3) (pv 9) (fun _ _ => rfl)) (pv 7) (fun _ _ => rfl))) pa_nil))))))) (pss_nil))))))))
      (pss_one (ps_ret (pv 3))))))), ?_⟩
  have n8 : n ≤ 8 := by omega
  have hz : 8 ≤ sizeLine := by decide
  have hrs : ∀ (i : Nat) x, ys[i]? = some x → ∃ r : Rope, rs[i]? = some r ∧ r ∈ rs ∧ RopeV K H x r ∧ ∃ f g : Nat, r.f = f ∧ r.r = g ∧ f < n ∧ g < n := by
    intro i x hx'
    have hi : i < rs.length := by
      rw [← hl]
      exact (List.getElem?_eq_some_iff.mp hx').1
    obtain ⟨u, hu, hd⟩ := hx i rs[i] (List.getElem?_eq_getElem hi)
    cases hx'.symm.trans hu
    obtain ⟨g1, g2, g3, g4, _⟩ := h4 _ (List.getElem_mem hi)
    exact ⟨_, List.getElem?_eq_getElem hi, List.getElem_mem hi, hd, rs[i].f.toNat, rs[i].r.toNat, by omega, by omega, by omega, by omega⟩
  walk_at "rd"
  refine ⟨_, ha, rfl, ?_⟩
  walk_at "rd"
  refine ⟨by omega, by omega, fun p hp => ?_⟩
  refine lcRange (fun i H' => ∃ as : List Addr, H' p = some (.lst (as.map V.ref)) ∧ as.length = i ∧ as.Nodup ∧ p ∉ as ∧ (∀ a ∈ as, H a = none ∧ H' a = some (.lst (List.replicate n .non))) ∧ Same H H')
    ⟨[], upd_same, rfl, .nil, by simp, fun a h => (by cases h), same_upd hp⟩ (fun i H' hi hPv => ?_) (fun H' hPv => ?_)
  · obtain ⟨as, e1, e2, e3, e4, e5, e6⟩ := hPv
    walk_at "rd"
    refine ⟨by omega, fun q1 hq1 => ?_⟩
    refine ⟨q1, n, [.non], rfl, rfl, upd_same, by omega, by omega, ?_, fun q2 hq2 => ?_⟩
    · rw [Int.toNat_natCast]
      show 1 * n ≤ sizeLine
      omega
    · have n1 : p ≠ q1 := ne_of_none e1 hq1
      have n2 : p ≠ q2 := ne_of_none (by rw [upd_ne n1]; exact e1) hq2
      have n3 : q2 ≠ q1 := fun z => by
        rw [z, upd_same] at hq2
        cases hq2
      have hq2' : H' q2 = none := by
        rw [upd_ne n3] at hq2
        exact hq2
      refine ⟨as.map V.ref, ?_, ?_, as ++ [q2], ?_, ?_, ?_, ?_, fun c hc => ?_, ?_⟩
      · rw [upd_ne n2, upd_ne n1]
        exact e1
      · rw [List.length_map]
        omega
      · rw [upd_same, List.map_append]
        rfl
      · rw [List.length_append, e2]
        rfl
      · refine List.nodup_append.mpr ⟨e3, by simp, fun x hx y hy => ?_⟩
        cases List.mem_singleton.mp hy
        exact ne_of_none (e5 x hx).2 hq2'
      · intro z
        rcases List.mem_append.mp z with z | z
        · exact e4 z
        · exact n2 (List.mem_singleton.mp z)
      · rcases List.mem_append.mp hc with z | z
        · obtain ⟨k1, k2⟩ := e5 c z
          have c1 : c ≠ p := fun y => e4 (by rw [← y]; exact z)
          refine ⟨k1, ?_⟩
          rw [upd_ne c1, upd_ne (ne_of_none k2 hq2'), upd_ne (ne_of_none k2 hq1)]
          exact k2
        · cases List.mem_singleton.mp z
          refine ⟨e6.free hq2', ?_⟩
          rw [upd_ne n2.symm, upd_same, Int.toNat_natCast, rep_flat]
      · intro c o e
        have c1 : c ≠ p := ne_of_none e hp
        rw [upd_ne c1]
        exact (same_upd hq1 |>.trans (same_upd hq2)) c o (e6 c o e)
  · obtain ⟨as, e1, e2, e3, e4, e5, e6⟩ := hPv
    have t0 : TabNew H H' p as n (diagD 0) := by
      refine ⟨e6, hp, fun a h => (e5 a h).1, ⟨e1, e2, e3, e4, fun i a h => ?_⟩⟩
      rw [(e5 a (List.mem_of_getElem? h)).2, rowV_none]
      intro j _
      unfold diagD
      rw [if_neg]
      omega
    walk_at "rd"
    refine ⟨by omega, by omega, ?_⟩
    refine forRange (fun i σ H' => ∃ x4 x5 x6 x7 x8 x9, σ = [some (.ref a), some (.int n), some (.ref b), some (.ref p), x4, x5, x6, x7, x8, x9] ∧ TabNew H H' p as n (diagD i)) ⟨_, _, _, _, _, _, rfl, t0⟩ (fun i σ H' hi hPv => ?_) (fun σ H' hPv => ?_)
    · obtain ⟨x4, x5, x6, x7, x8, x9, rfl, tn⟩ := hPv
      obtain ⟨c, hc, hcm, hrow⟩ := tn.tab.get hi
      walk_at "rd"
      refine ⟨p, _, _, _, rfl, rfl, .of tn.tab.top, atI_nat hcm, ?_⟩
      refine ⟨c, _, i, i, rfl, rfl, hrow, ix_nat (by rw [rowV_len]; exact hi), ?_⟩
      refine ⟨_, _, _, _, _, _, ⟨rfl, rfl, rfl, rfl, rfl, rfl⟩, tn.step ((tn.tab.put hc i 0).congr fun x y hx hy => ?_) (butL_upd (List.mem_of_getElem? hc))⟩
      exact diag_step i x y
    · obtain ⟨x4, x5, x6, x7, x8, x9, rfl, tn⟩ := hPv
      walk_at "rd"
      refine ⟨⟨_, sqt_same tn.same hb⟩, ?_⟩
      refine forTup (xs := ys) (fun i σ H' => ∃ x4 x5 x6 x7 x8 x9, σ = [some (.ref a), some (.int n), some (.ref b), some (.ref p), x4, x5, x6, x7, x8, x9] ∧ TabNew H H' p as n (ropesD (baseD n) (rs.take i))) ⟨_, _, _, _, _, _, rfl, ?_⟩ (fun i σ H' hi hPv => ?_) (fun i x σ H' hx' hPv => ?_) (fun σ H' hPv => ?_)
      · exact tn
      · obtain ⟨_, _, _, _, _, _, _, tn⟩ := hPv
        exact sqt_same tn.same hb
      · obtain ⟨x4, x5, x6, x7, x8, x9, rfl, tn⟩ := hPv
        obtain ⟨r, hri, hrm, ⟨c, rfl, hc⟩, f, g, ef, eg, hf, hg⟩ := hrs i x hx'
        walk_at "rd"
        refine ⟨_, sqt_same tn.same hc, rfl, ?_⟩
        walk_at "rd"
        refine ⟨p, as, n, _, f, g, r.l, by rw [ef, eg], tn.tab, hf, hg, fun H2 t2 b2 => ?_⟩
        walk_at "rd"
        refine ⟨_, _, _, _, _, _, ⟨rfl, rfl, rfl, rfl, rfl, rfl⟩, tn.step ?_ b2⟩
        rw [List.take_add_one, hri]
        unfold ropesD
        rw [List.foldl_append]
        show TabAt H2 p as n (keepD _ r.f.toNat r.r.toNat r.l)
        rw [ef, eg, Int.toNat_natCast, Int.toNat_natCast]
        exact t2
      · obtain ⟨x4, x5, x6, x7, x8, x9, rfl, tn⟩ := hPv
        rw [List.take_of_length_le (by omega)] at tn
        walk_at "rd"
        refine ⟨by omega, by omega, ?_⟩
        refine forRange (fun i σ H' => ∃ x4 x5 x6 x7 x8 x9, σ = [some (.ref a), some (.int n), some (.ref b), some (.ref p), x4, x5, x6, x7, x8, x9] ∧ TabNew H H' p as n (fwAll n (ropesD (baseD n) rs) i)) ⟨_, _, _, _, _, _, rfl, tn⟩ (fun m σ H' hm hPv => ?_) (fun σ H' hPv => ?_)
        · obtain ⟨x4, x5, x6, x7, x8, x9, rfl, tn⟩ := hPv
          walk_at "rd"
          refine ⟨by omega, by omega, ?_⟩
          refine forRange (fun i σ H' => ∃ x4 x5 x6 x7 x8, σ = [some (.ref a), some (.int n), some (.ref b), some (.ref p), x4, x5, x6, x7, x8, some (.int m)] ∧ TabNew H H' p as n (fwMid n (fwAll n (ropesD (baseD n) rs) m) m i)) ⟨_, _, _, _, _, rfl, tn⟩ (fun i σ H' hi hPv => ?_) (fun σ H' hPv => ?_)
          · obtain ⟨x4, x5, x6, x7, x8, rfl, tn⟩ := hPv
            walk_at "rd"
            refine ⟨by omega, by omega, ?_⟩
            refine forRange (fun j σ H' => ∃ x4 x5 x7 x8, σ = [some (.ref a), some (.int n), some (.ref b), some (.ref p), x4, x5, some (.int i), x7, x8, some (.int m)] ∧ TabNew H H' p as n (fwRow n (fwMid n (fwAll n (ropesD (baseD n) rs) m) m i) m i j)) ⟨_, _, _, _, rfl, tn⟩ (fun j σ H' hj hPv => ?_) (fun σ H' hPv => ?_)
            · obtain ⟨x4, x5, x7, x8, rfl, tn⟩ := hPv
              generalize hD : fwRow n (fwMid n (fwAll n (ropesD (baseD n) rs) m) m i) m i j = D at tn
              have hfin : fwRow n (fwMid n (fwAll n (ropesD (baseD n) rs) m) m i) m i (j + 1) = fwStep D m i j := by rw [fwRow_succ, hD]
              obtain ⟨c, hc, hcm, hrow⟩ := tn.tab.get hi
              obtain ⟨c2, hc2, hcm2, hrow2⟩ := tn.tab.get hm
              rw [hfin]
              walk_at "rd"
              refine ⟨p, _, _, _, rfl, rfl, .of tn.tab.top, atI_nat hcm, c, _, _, _, rfl, rfl, .of hrow, atI_nat (rowV_at D i hm), ?_⟩
              walk_at "rd"
              rcases step_cases D m i j with ⟨e, h⟩ | ⟨u, v, eu, ev, e⟩ <;> rw [e]
              · cases hu : D i m with
                | none =>
                  simp only [ovV, decide_true, Bool.not_true, Bool.false_eq_true, ite_false]
                  exact ⟨_, _, _, _, ⟨rfl, rfl, rfl, rfl⟩, tn⟩
                | some u =>
                  have hv : D m j = none := by
                    rcases h with h | h
                    · rw [hu] at h
                      cases h
                    · exact h
                  simp only [ovV, reduceCtorEq, decide_false, Bool.not_false, ite_true]
                  refine ⟨p, _, _, _, rfl, rfl, .of tn.tab.top, atI_nat hcm2, c2, _, _, _, rfl, rfl, .of hrow2, atI_nat (rowV_at D m hj), ?_⟩
                  rw [hv]
                  walk_at "rd"
                  simp only [ovV, decide_true, Bool.not_true, Bool.false_eq_true, ite_false]
                  exact ⟨_, _, _, _, ⟨rfl, rfl, rfl, rfl⟩, tn⟩
              · rw [eu]
                simp only [ovV, reduceCtorEq, decide_false, Bool.not_false, ite_true]
                refine ⟨p, _, _, _, rfl, rfl, .of tn.tab.top, atI_nat hcm2, c2, _, _, _, rfl, rfl, .of hrow2, atI_nat (rowV_at D m hj), ?_⟩
                rw [ev]
                walk_at "rd"
                simp only [ovV, reduceCtorEq, decide_false, Bool.not_false, ite_true]
                refine ⟨p, _, _, _, rfl, rfl, .of tn.tab.top, atI_nat hcm, c, _, _, _, rfl, rfl, .of hrow, atI_nat (rowV_at D i hm), ?_⟩
                refine ⟨p, _, _, _, rfl, rfl, .of tn.tab.top, atI_nat hcm2, c2, _, _, _, rfl, rfl, .of hrow2, atI_nat (rowV_at D m hj), ?_⟩
                rw [eu, ev]
                simp only [ovV]
                walk_at "rd"
                refine ⟨p, as, n, D, i, j, u + v, rfl, tn.tab, hi, hj, fun H2 t2 b2 => ?_⟩
                walk_at "rd"
                exact ⟨_, _, _, _, ⟨rfl, rfl, rfl, rfl⟩, tn.step t2 b2⟩
            · obtain ⟨x4, x5, x7, x8, rfl, tn⟩ := hPv
              rw [← fwMid_succ] at tn
              exact ⟨_, _, _, _, _, rfl, tn⟩
          · obtain ⟨x4, x5, x6, x7, x8, rfl, tn⟩ := hPv
            rw [← fwAll_succ] at tn
            exact ⟨_, _, _, _, _, _, rfl, tn⟩
        · obtain ⟨x4, x5, x6, x7, x8, x9, rfl, tn⟩ := hPv
          walk_at "rd"
          exact q _ _ _ tn
end
end Hx

set_option Elab.async false
set_option linter.all false
set_option maxRecDepth 100000
set_option maxHeartbeats 4000000
namespace Hx
open PySem PySem.Spec PyProof.Rows L2
local macro_rules | `(tactic| walk_at "rd") => `(tactic| (try simp only [q_var, q_c, q_op, q_un, q_rI, q_rI0, q_rU, q_rEq, q_rNe, q_test, q_tB, q_and, q_or, q_not, q_andV, q_orV, q_notV, q_if, q_isN, q_notN, q_chain, q_next, q_seq, q_break, q_cont, q_drop, q_ret, q_retN, q_ifS, q_never, q_gN, q_gNil, q_gCons, q_gTup, q_gSub, q_asg, q_par, q_aug, q_nil, q_cons, q_tup, q_lst, q_call, q_cb, q_noPart, q_part, q_sl, q_bm0, q_bm, q_yes, q_for, q_lc, q_iList, q_iTup, q_iRng1, q_iEnumT, q_iEnum, q_iRng2, q_iZipA, q_iZipM, q_ipI, q_ckw, q_len, q_listOf, q_tupleOf, L2.start, cx_K, wipe, List.map_cons, List.map_nil, List.length_cons, List.length_nil, List.cons_append, List.nil_append, List.append_nil, List.replicate, List.getElem?_cons_zero, List.getElem?_cons_succ, List.set_cons_zero, List.set_cons_succ, Option.some.injEq, List.cons.injEq, exists_eq_left', exists_eq_left, exists_and_left, V.int.injEq, V.bl.injEq, V.ref.injEq, if_true, if_false, Bool.not_true, Bool.not_false, true_and, and_true, Bool.false_eq_true, ite_true, ite_false, Nat.reduceAdd, Nat.reduceSub, reduceCtorEq, decide_false, decide_true, Int.toNat_natCast, false_and, exists_false, or_false, false_or]))
section
variable {P : Program} {w : World} {K : PySem.W.Frag} {mg : Str → Option Value} {base : Heap}
def s_check_table : Stmt := topS 29
abbrev n_check_table : List Str := ["table", "barge"]
abbrev p_check_table : List Str := ["table"]
theorem sc_check_table : FnScope n_check_table p_check_table (defScope s_check_table) := ⟨rfl, rfl, rfl, by decide +kernel, rfl, by decide +kernel, by decide +kernel⟩
def sp_check_table (K : PySem.W.Frag) : Sp := fun vs H Q _ => ∃ (t : Addr) (as : List Addr) (n : Nat) (d : Tab), vs = [.ref t] ∧ TabAt H t as n d ∧ n ≤ 8 ∧ Diag n d ∧ Q .non H
theorem df_check_table (T : Here K mg "check_table" s_check_table) (B : Blt mg) : Df P w K mg base CX0 "check_table" 1 p_check_table (sp_check_table K) := by
  refine T.df sc_check_table (fun _ _ _ _ _ _ us hl => match us, hl with | [_], _ => rfl) (fun vs H Q E h => by obtain ⟨_, _, _, _, rfl, _⟩ := h; rfl) (fun f cdv A outer s H vs Q E hr h => ?_)
  obtain ⟨t, as, n, d, rfl, ht, h8, hd, q⟩ := h
  refine ⟨_, pss_one (ps_for PassesOwn.never rfl (pi_range1 (by rfl) B.range (pa_cons (pe_callB (lenQ K rfl) (by rfl) B.len (by decide +kernel) (pa_cons (pv 0) pa_nil)) pa_nil)) (pg_name (i := 1) sc_check_table.nd rfl (by first | exact Or.inl rfl | exact Or.inr rfl)) (pss_one (ps_if (pt_cmpR op_lt (pe_ix (ixL K rfl) (pe_ix (ixL K rfl) (pv 0) (pv 1) (fun _ _ => rfl)) (pv 1) (fun _ _ => rfl)) (pe_int) (nomark _)) (pss_one (ps_never)) (pss_nil)))), ?_⟩
  walk_at "rd"
  refine ⟨_, .inl (.of ht.top), ?_⟩
  rw [List.length_map, ht.len]
  refine ⟨by omega, by omega, ?_⟩
  walk_at "rd"
  refine forRange (fun i σ H' => ∃ x1, σ = [some (.ref t), x1] ∧ H' = H) ⟨_, rfl, rfl⟩ (fun i σ H' hi hPv => ?_) (fun σ H' hPv => ?_)
  · obtain ⟨x1, rfl, rfl⟩ := hPv
    obtain ⟨c, hc, hcm, hrow⟩ := ht.get hi
    walk_at "rd"
    refine ⟨t, _, _, _, rfl, rfl, .of ht.top, atI_nat hcm, c, _, _, _, rfl, rfl, .of hrow, atI_nat (rowV_at d i hi), ?_⟩
    rw [hd i hi]
    simp only [ovV]
    walk_at "rd"
    exact trivial
  · obtain ⟨x1, rfl, rfl⟩ := hPv
    exact q
def s_chain_length : Stmt := topS 26
abbrev n_chain_length : List Str := ["fleet", "front", "rear", "table"]
abbrev p_chain_length : List Str := ["fleet", "front", "rear"]
theorem sc_chain_length : FnScope n_chain_length p_chain_length (defScope s_chain_length) := ⟨rfl, rfl, rfl, by decide +kernel, rfl, by decide +kernel, by decide +kernel⟩
def sp_chain_length (K : PySem.W.Frag) : Sp := fun vs H Q _ => ∃ (v : V) (n : Nat) (rs : List Rope) (f r : Nat), vs = [v, .int f, .int r] ∧ FleetV K H v n rs ∧ FleetOk n rs ∧ f < n ∧ r < n ∧ Diag n (chainTab n rs) ∧
  ∀ H', Same H H' → Q (ovV (chainTab n rs f r)) H'
theorem df_chain_length (T : Here K mg "chain_length" s_chain_length) (D_check_fleet : Df P w K mg base CX0 "check_fleet" 4 p_check_fleet (sp_check_fleet K)) (D_is_barge : Df P w K mg base CX0 "is_barge" 2 p_is_barge (sp_is_barge K))
    (D_chain_table : Df P w K mg base CX0 "chain_table" 2 p_chain_table (sp_chain_table K)) (D_check_table : Df P w K mg base CX0 "check_table" 1 p_check_table (sp_check_table K)) : Df P w K mg base CX0 "chain_length" 5 p_chain_length (sp_chain_length K) := by
  refine T.df sc_chain_length (fun _ _ _ _ _ _ us hl => match us, hl with | [_, _, _], _ => rfl) (fun vs H Q E h => by obtain ⟨_, _, _, _, _, rfl, _⟩ := h; rfl) (fun f cdv A outer s H vs Q E hr h => ?_)
  obtain ⟨v, n, rs, f, r, rfl, hv, hok, hf, hr', hd, q⟩ := h
  refine ⟨_, pss_cons (ps_expr (D_check_fleet.call (hr.mono (by decide)) (by rfl) (pa_cons (pv 0) pa_nil)))
      (pss_cons (ps_if (PW.pt (pw_or (pt_not (pt_val (D_is_barge.call (hr.mono (by decide)) (by rfl) (pa_cons (pv 1) (pa_cons (pe_ix (ixT K rfl) (pv 0) (pe_int) (fun _ _ => rfl)) pa_nil))))) (pw_or1 (pt_not (pt_val (D_is_barge.call (hr.mono (by decide)) (by rfl) (pa_cons (pv 2) (pa_cons (pe_ix (ixT K rfl) (pv 0) (pe_int) (fun _ _ => rfl)) pa_nil)))))))) (pss_one (ps_never)) (pss_nil))
      (pss_cons (ps_set (i := 3) sc_chain_length.nd rfl (by first | exact Or.inl rfl | exact Or.inr rfl) (D_chain_table.call (hr.mono (by decide)) (by rfl) (pa_cons (pv 0) pa_nil)))
      (pss_cons (ps_expr (D_check_table.call (hr.mono (by decide)) (by rfl) (pa_cons (pv 3) pa_nil)))
      (pss_one (ps_ret (pe_ix (ixL K rfl) (pe_ix (ixL K rfl) (pv 3) (pv 1) (fun _ _ => rfl)) (pv 2) (fun _ _ => rfl))))))), ?_⟩
  walk_at "rd"
  refine ⟨v, n, rs, rfl, hv, hok, fun H1 s1 => ?_⟩
  obtain ⟨a, b, ys, rfl, ha, _⟩ := hv.mono s1
  have ff : decide (0 ≤ (f : Int) ∧ (f : Int) < (n : Int)) = true := decide_eq_true (by omega)
  have rr : decide (0 ≤ (r : Int) ∧ (r : Int) < (n : Int)) = true := decide_eq_true (by omega)
  walk_at "rd"
  refine ⟨a, _, 0, _, rfl, rfl, ha, atI_nat (j := 0) rfl, ?_⟩
  walk_at "rd"
  refine ⟨f, n, rfl, ?_⟩
  rw [ff]
  walk_at "rd"
  refine ⟨a, _, 0, _, rfl, rfl, ha, atI_nat (j := 0) rfl, ?_⟩
  walk_at "rd"
  refine ⟨r, n, rfl, ?_⟩
  rw [rr]
  walk_at "rd"
  refine ⟨_, n, rs, rfl, hv.mono s1, hok, fun H2 t as tn => ?_⟩
  walk_at "rd"
  refine ⟨t, as, n, _, rfl, tn.tab, by have := hok.2.1; omega, hd, ?_⟩
  obtain ⟨c, hc, hcm, hrow⟩ := tn.tab.get hf
  walk_at "rd"
  refine ⟨t, _, _, _, rfl, rfl, .of tn.tab.top, atI_nat hcm, c, _, _, _, rfl, rfl, .of hrow, atI_nat (rowV_at _ f hr'), ?_⟩
  exact q _ (s1.trans tn.same)
/-! hauling -/
def mv1 : Option Int → Int → Int → Int
  | none, x, _ => x
  | some l, x, p => if p - l > x then p - l else x
def moveD (d : Tab) (xs : List Int) (b : Nat) (p : Int) : List Int := (List.range xs.length).map fun o => mv1 (d b o) (xs.getD o 0) p
theorem moveD_len (d : Tab) (xs : List Int) (b : Nat) (p : Int) : (moveD d xs b p).length = xs.length := by
  unfold moveD
  rw [List.length_map, List.length_range]
theorem moveD_at (d : Tab) (xs : List Int) (b : Nat) (p : Int) {o : Nat} (h : o < xs.length) : (moveD d xs b p)[o]? = some (mv1 (d b o) (xs.getD o 0) p) := by
  unfold moveD
  rw [List.getElem?_map, List.getElem?_range h]
  rfl
theorem ints_at {xs : List Int} {i : Nat} {x : V} (h : (xs.map V.int)[i]? = some x) : i < xs.length ∧ x = .int (xs.getD i 0) := by
  rw [List.getElem?_map] at h
  cases e : xs[i]? with
  | none =>
    rw [e] at h
    cases h
  | some y =>
    rw [e] at h
    refine ⟨(List.getElem?_eq_some_iff.mp e).1, ?_⟩
    rw [List.getD_eq_getElem?_getD, e]
    exact (Option.some.inj h).symm
theorem at_ints {xs : List Int} {i : Nat} (h : i < xs.length) : (xs.map V.int)[i]? = some (.int (xs.getD i 0)) := by
  rw [List.getElem?_map, List.getD_eq_getElem?_getD, List.getElem?_eq_getElem h]
  rfl
def s_move_barge : Stmt := topS 35
abbrev n_move_barge : List Str := ["table", "positions", "barge", "position", "after", "other", "before", "length"]
abbrev p_move_barge : List Str := ["table", "positions", "barge", "position"]
theorem sc_move_barge : FnScope n_move_barge p_move_barge (defScope s_move_barge) := ⟨rfl, rfl, rfl, by decide +kernel, rfl, by decide +kernel, by decide +kernel⟩
def sp_move_barge (K : PySem.W.Frag) : Sp := fun vs H Q _ => ∃ (t : Addr) (as : List Addr) (n : Nat) (d : Tab) (u : V) (xs : List Int) (b : Nat) (p : Int), vs = [.ref t, u, .int b, .int p] ∧ TabAt H t as n d ∧ IntsT K H u xs ∧ xs.length = n ∧ b < n ∧ n ≤ 8 ∧
  ∀ H' a, Same H H' → H a = none → H' a = some (.tup ((moveD d xs b p).map V.int)) → Q (.ref a) H'
theorem df_move_barge (T : Here K mg "move_barge" s_move_barge) (B : Blt mg) : Df P w K mg base CX0 "move_barge" 1 p_move_barge (sp_move_barge K) := by
  refine T.df sc_move_barge (fun _ _ _ _ _ _ us hl => match us, hl with | [_, _, _, _], _ => rfl) (fun vs H Q E h => by obtain ⟨_, _, _, _, _, _, _, _, rfl, _⟩ := h; rfl) (fun f cdv A outer s H vs Q E hr h => ?_)
  obtain ⟨t, as, n, d, u, xs, b, p, rfl, ht, ⟨c, rfl, hc⟩, hn, hb, h8, q⟩ := h
  refine ⟨_, pss_cons (ps_set (i := 4) sc_move_barge.nd rfl (by first | exact Or.inl rfl | exact Or.inr rfl) (pe_lst (pa_nil)))
      (pss_cons (ps_for PassesOwn.never rfl (pi_enumT (by rfl) B.enumerate (pa_cons (pv 1) pa_nil)) (pgTup K rfl (n := 2) rfl (pgs_cons (pg_name (i := 5) sc_move_barge.nd rfl (by first | exact Or.inl rfl | exact Or.inr rfl)) (pgs_cons (pg_name (i := 6) sc_move_barge.nd rfl (by first | exact Or.inl rfl | exact Or.inr rfl)) pgs_nil))) (pss_cons (ps_set (i := 7) sc_move_barge.nd rfl (by first | exact Or.inl rfl | exact Or.inr rfl) (pe_ix (ixL K rfl) (pe_ix (ixL K rfl) (pv 0) (pv 2) (fun _ _ => rfl)) (pv 5) (fun _ _ => rfl)))
      (pss_one (ps_if (pt_cmpR op_isN (pv 7) (pe_non) (nomark _)) (pss_one (ps_expr (pe_bm PySem.F.plainAttrs_list PySem.F.slot_list_append PySem.F.type_list_append mt_append (pv 4) (pa_cons (pv 6) pa_nil)))) (pss_one (ps_expr (pe_bm PySem.F.plainAttrs_list PySem.F.slot_list_append PySem.F.type_list_append mt_append (pv 4) (pa_cons (pe_callB (call_max2 rfl) (by rfl) B.max (by decide +kernel) (pa_cons (pv 6) (pa_cons (pe_op op_sub (pv 3) (pv 7)) pa_nil))) pa_nil))))))))
      (pss_one (ps_ret (pe_callTy (tupleOf K rfl) (by rfl) B.tuple (by decide +kernel) (pa_cons (pv 4) pa_nil))))), ?_⟩
  have hz : 8 < sizeLine := by decide
  walk_at "rd"
  refine ⟨Nat.zero_le _, fun l hl => ?_⟩
  walk_at "rd"
  have s0 := same_upd (o := .lst []) hl
  refine ⟨⟨_, sqt_same s0 hc⟩, ?_⟩
  refine forEnumT (xs := xs.map V.int) (fun i σ H' => ∃ x5 x6 x7, σ = [some (.ref t), some (.ref c), some (.int b), some (.int p), some (.ref l), x5, x6, x7] ∧ Same H H' ∧ H' l = some (.lst (((moveD d xs b p).take i).map V.int)))
    ⟨_, _, _, rfl, s0, upd_same⟩ (fun i σ H' _ hPv => ?_) (fun i x T σ H' hx' hPv hT => ?_) (fun σ H' hPv => ?_)
  · obtain ⟨_, _, _, _, e, _⟩ := hPv
    exact sqt_same e hc
  · obtain ⟨x5, x6, x7, rfl, e, hL⟩ := hPv
    obtain ⟨hi, rfl⟩ := ints_at hx'
    have eT := e.trans (same_upd (o := .tup [V.int i, V.int (xs.getD i 0)]) hT)
    have tT := ht.mono eT
    obtain ⟨a, ha, ham, hrow⟩ := tT.get hb
    have nl : l ≠ T := ne_of_none hL hT
    have hL2 : (upd H' T (.tup [V.int i, V.int (xs.getD i 0)])) l = some (.lst (((moveD d xs b p).take i).map V.int)) := by
      rw [upd_ne nl]
      exact hL
    have hlen : (((moveD d xs b p).take i).map V.int).length < sizeLine := by
      rw [List.length_map, List.length_take, moveD_len]
      omega
    have hnext : ((moveD d xs b p).take i).map V.int ++ [V.int (mv1 (d b i) (xs.getD i 0) p)] = ((moveD d xs b p).take (i + 1)).map V.int := by
      rw [List.take_add_one, moveD_at d xs b p hi, List.map_append]
      rfl
    have fin : ∀ y, y = mv1 (d b i) (xs.getD i 0) p → Same H (upd (upd H' T (.tup [V.int i, V.int (xs.getD i 0)])) l (.lst (((moveD d xs b p).take i).map V.int ++ [V.int y]))) ∧
        (upd (upd H' T (.tup [V.int i, V.int (xs.getD i 0)])) l (.lst (((moveD d xs b p).take i).map V.int ++ [V.int y]))) l = some (.lst (((moveD d xs b p).take (i + 1)).map V.int)) := by
      rintro y rfl
      refine ⟨fun z o hz' => ?_, by rw [upd_same, hnext]⟩
      rw [upd_ne (ne_of_none hz' hl)]
      exact eT z o hz'
    walk_at "rd"
    refine ⟨_, .of upd_same, rfl, ?_⟩
    walk_at "rd"
    refine ⟨t, _, _, _, rfl, rfl, .of tT.top, atI_nat ham, a, _, _, _, rfl, rfl, .of hrow, atI_nat (rowV_at d b (by omega)), ?_⟩
    walk_at "rd"
    cases hd : d b i with
    | none =>
      simp only [ovV, decide_true, ite_true]
      refine ⟨.inl ⟨rfl, _, .of hL2⟩, l, _, _, rfl, rfl, hL2, hlen, ?_⟩
      obtain ⟨f1, f2⟩ := fin (xs.getD i 0) (by rw [hd]; rfl)
      exact ⟨_, _, _, ⟨rfl, rfl, rfl⟩, f1, f2⟩
    | some m =>
      simp only [ovV, reduceCtorEq, decide_false, Bool.false_eq_true, ite_false]
      refine ⟨.inl ⟨rfl, _, .of hL2⟩, ?_⟩
      walk_at "rd"
      refine ⟨_, _, ⟨rfl, rfl⟩, l, _, _, rfl, rfl, hL2, hlen, ?_⟩
      obtain ⟨f1, f2⟩ := fin _ (show (if p - m > xs.getD i 0 then p - m else xs.getD i 0) = _ by rw [hd]; rfl)
      exact ⟨_, _, _, ⟨rfl, rfl, rfl⟩, f1, f2⟩
  · obtain ⟨x5, x6, x7, rfl, e, hL⟩ := hPv
    rw [List.take_of_length_le (by rw [List.length_map, moveD_len]; exact Nat.le_refl _)] at hL
    walk_at "rd"
    refine ⟨_, .inl ⟨.of hL, fun a ha => ?_⟩⟩
    exact q _ a (e.trans (same_upd ha)) (e.free ha) upd_same
end
end Hx

set_option Elab.async false
set_option linter.all false
set_option maxRecDepth 100000
set_option maxHeartbeats 4000000
namespace Hx
open PySem PySem.Spec PyProof.Rows L2
local macro_rules | `(tactic| walk_at "rd") => `(tactic| (try simp only [q_var, q_c, q_op, q_un, q_rI, q_rI0, q_rU, q_rEq, q_rNe, q_test, q_tB, q_and, q_or, q_not, q_andV, q_orV, q_notV, q_if, q_isN, q_notN, q_chain, q_next, q_seq, q_break, q_cont, q_drop, q_ret, q_retN, q_ifS, q_never, q_gN, q_gNil, q_gCons, q_gTup, q_gSub, q_asg, q_par, q_aug, q_nil, q_cons, q_tup, q_lst, q_call, q_cb, q_noPart, q_part, q_sl, q_bm0, q_bm, q_yes, q_for, q_lc, q_iList, q_iTup, q_iRng1, q_iEnumT, q_iEnum, q_iRng2, q_iZipA, q_iZipM, q_ipI, q_ckw, q_len, q_listOf, q_tupleOf, L2.start, cx_K, wipe, List.map_cons, List.map_nil, List.length_cons, List.length_nil, List.cons_append, List.nil_append, List.append_nil, List.replicate, List.getElem?_cons_zero, List.getElem?_cons_succ, List.set_cons_zero, List.set_cons_succ, Option.some.injEq, List.cons.injEq, exists_eq_left', exists_eq_left, exists_and_left, V.int.injEq, V.bl.injEq, V.ref.injEq, if_true, if_false, Bool.not_true, Bool.not_false, true_and, and_true, Bool.false_eq_true, ite_true, ite_false, Nat.reduceAdd, Nat.reduceSub, reduceCtorEq, decide_false, decide_true, Int.toNat_natCast, false_and, exists_false, or_false, false_or]))
section
variable {P : Program} {w : World} {K : PySem.W.Frag} {mg : Str → Option Value} {base : Heap} {C_Contradictory C_InvalidBarge : Addr}
/-- check_table, where a circle may show -/
def sx_check_table (K : PySem.W.Frag) (C : Addr) : Sp := fun vs H Q E => ∃ (t : Addr) (as : List Addr) (n : Nat) (d : Tab), vs = [.ref t] ∧ TabAt H t as n d ∧ n ≤ 8 ∧ (∀ i, i < n → ∃ x, d i i = some x ∧ x ≤ 0) ∧ (Diag n d → Q .non H) ∧ (¬ Diag n d → E (.ref C) none H)
theorem dx_check_table (T : Here K mg "check_table" s_check_table) (B : Blt mg) (E_Contradictory : ErrC K mg "Contradictory" C_Contradictory) : Df P w K mg base (L2.CX P w) "check_table" 1 p_check_table (sx_check_table K C_Contradictory) := by
  refine T.dfX sc_check_table (fun _ _ _ _ _ _ us hl => match us, hl with | [_], _ => rfl) (fun vs H Q E h => by obtain ⟨_, _, _, _, rfl, _⟩ := h; rfl) (fun f cdv A outer s H vs Q E hr h => ?_)
  obtain ⟨t, as, n, d, rfl, ht, h8, hd, q, qe⟩ := h
  refine ⟨_, pss_one (ps_for (passes_of rfl) rfl (pi_range1 (by rfl) B.range (pa_cons (pe_callB (lenQ K rfl) (by rfl) B.len (by decide +kernel) (pa_cons (pv 0) pa_nil)) pa_nil)) (pg_name (i := 1) sc_check_table.nd rfl (by first | exact Or.inl rfl | exact Or.inr rfl)) (pss_one (ps_if (pt_cmpR op_lt (pe_ix (ixL K rfl) (pe_ix (ixL K rfl) (pv 0) (pv 1) (fun _ _ => rfl)) (pv 1) (fun _ _ => rfl)) (pe_int) (nomark _)) (pss_one (ps_raise rfl (takes_of rfl rfl rfl rfl) (E_Contradictory.make (by rfl)))) (pss_nil)))), ?_⟩
  walk_at "rd"
  refine ⟨_, .inl (.of ht.top), ?_⟩
  rw [List.length_map, ht.len]
  refine ⟨by omega, by omega, ?_⟩
  walk_at "rd"
  refine forRange (fun i σ H' => ∃ x1, σ = [some (.ref t), x1] ∧ H' = H ∧ ∀ j, j < i → d j j = some 0) ⟨_, rfl, rfl, fun j hj => absurd hj (Nat.not_lt_zero j)⟩ (fun i σ H' hi hPv => ?_) (fun σ H' hPv => ?_)
  · obtain ⟨x1, rfl, rfl, hz⟩ := hPv
    obtain ⟨c, hc, hcm, hrow⟩ := ht.get hi
    obtain ⟨x, ex, hx⟩ := hd i hi
    walk_at "rd"
    refine ⟨t, _, _, _, rfl, rfl, .of ht.top, atI_nat hcm, c, _, _, _, rfl, rfl, .of hrow, atI_nat (rowV_at d i hi), ?_⟩
    rw [ex]
    simp only [ovV]
    walk_at "rd"
    by_cases h0 : x < 0
    · simp only [h0, decide_true, ite_true]
      refine qe fun hD => ?_
      rw [hD i hi] at ex
      cases ex
      omega
    · simp only [h0, decide_false, Bool.false_eq_true, ite_false]
      refine fun j hj => ?_
      by_cases e : j = i
      · subst e
        rw [ex]
        congr 1
        omega
      · exact hz j (by omega)
  · obtain ⟨x1, rfl, rfl, hz⟩ := hPv
    exact q hz
def sx_chain_length (K : PySem.W.Frag) (C : Addr) : Sp := fun vs H Q E => ∃ (v : V) (n : Nat) (rs : List Rope) (f r : Nat), vs = [v, .int f, .int r] ∧ FleetV K H v n rs ∧ FleetOk n rs ∧ f < n ∧ r < n ∧
  (Diag n (chainTab n rs) → ∀ H', Same H H' → Q (ovV (chainTab n rs f r)) H') ∧ (¬ Diag n (chainTab n rs) → ∀ H', Same H H' → E (.ref C) none H')
theorem dx_chain_length (T : Here K mg "chain_length" s_chain_length) (E_InvalidBarge : ErrC K mg "InvalidBarge" C_InvalidBarge) (D_check_fleet : Df P w K mg base CX0 "check_fleet" 4 p_check_fleet (sp_check_fleet K)) (D_is_barge : Df P w K mg base CX0 "is_barge" 2 p_is_barge (sp_is_barge K))
    (D_chain_table : Df P w K mg base CX0 "chain_table" 2 p_chain_table (sp_chain_table K)) (DX_check_table : Df P w K mg base (L2.CX P w) "check_table" 1 p_check_table (sx_check_table K C_Contradictory)) : Df P w K mg base (L2.CX P w) "chain_length" 5 p_chain_length (sx_chain_length K C_Contradictory) := by
  refine T.dfX sc_chain_length (fun _ _ _ _ _ _ us hl => match us, hl with | [_, _, _], _ => rfl) (fun vs H Q E h => by obtain ⟨_, _, _, _, _, rfl, _⟩ := h; rfl) (fun f cdv A outer s H vs Q E hr h => ?_)
  obtain ⟨v, n, rs, f, r, rfl, hv, hok, hf, hr', q, qe⟩ := h
  refine ⟨_, pss_cons (ps_expr (D_check_fleet.call (hr.mono (by decide)) (by rfl) (pa_cons (pv 0) pa_nil)))
      (pss_cons (ps_if (PW.pt (pw_or (pt_not (pt_val (D_is_barge.call (hr.mono (by decide)) (by rfl) (pa_cons (pv 1) (pa_cons (pe_ix (ixT K rfl) (pv 0) (pe_int) (fun _ _ => rfl)) pa_nil))))) (pw_or1 (pt_not (pt_val (D_is_barge.call (hr.mono (by decide)) (by rfl) (pa_cons (pv 2) (pa_cons (pe_ix (ixT K rfl) (pv 0) (pe_int) (fun _ _ => rfl)) pa_nil)))))))) (pss_one (ps_raise rfl (takes_of rfl rfl rfl rfl) (E_InvalidBarge.make (by rfl)))) (pss_nil))
      (pss_cons (ps_set (i := 3) sc_chain_length.nd rfl (by first | exact Or.inl rfl | exact Or.inr rfl) (D_chain_table.call (hr.mono (by decide)) (by rfl) (pa_cons (pv 0) pa_nil)))
      (pss_cons (ps_expr (DX_check_table.callX (hr.mono (by decide)) (by rfl) (takes_of rfl rfl rfl rfl) (pa_cons (pv 3) pa_nil)))
      (pss_one (ps_ret (pe_ix (ixL K rfl) (pe_ix (ixL K rfl) (pv 3) (pv 1) (fun _ _ => rfl)) (pv 2) (fun _ _ => rfl))))))), ?_⟩
  walk_at "rd"
  refine ⟨v, n, rs, rfl, hv, hok, fun H1 s1 => ?_⟩
  obtain ⟨a, b, ys, rfl, ha, _⟩ := hv.mono s1
  have ff : decide (0 ≤ (f : Int) ∧ (f : Int) < (n : Int)) = true := decide_eq_true (by omega)
  have rr : decide (0 ≤ (r : Int) ∧ (r : Int) < (n : Int)) = true := decide_eq_true (by omega)
  walk_at "rd"
  refine ⟨a, _, 0, _, rfl, rfl, ha, atI_nat (j := 0) rfl, ?_⟩
  walk_at "rd"
  refine ⟨f, n, rfl, ?_⟩
  rw [ff]
  walk_at "rd"
  refine ⟨a, _, 0, _, rfl, rfl, ha, atI_nat (j := 0) rfl, ?_⟩
  walk_at "rd"
  refine ⟨r, n, rfl, ?_⟩
  rw [rr]
  walk_at "rd"
  refine ⟨_, n, rs, rfl, hv.mono s1, hok, fun H2 t as tn => ?_⟩
  walk_at "rd"
  refine ⟨t, as, n, _, rfl, tn.tab, by have := hok.2.1; omega, fun i hi => (by obtain ⟨z, ez, hz⟩ := chain_diag (n := n) (rs := rs) hi 0 rfl; exact ⟨z, ez, hz⟩), fun hD => ?_, fun hD => qe hD _ (s1.trans tn.same)⟩
  obtain ⟨c, hc, hcm, hrow⟩ := tn.tab.get hf
  walk_at "rd"
  refine ⟨t, _, _, _, rfl, rfl, .of tn.tab.top, atI_nat hcm, c, _, _, _, rfl, rfl, .of hrow, atI_nat (rowV_at _ f hr'), ?_⟩
  exact q hD _ (s1.trans tn.same)
end
end Hx

set_option linter.all false
set_option maxHeartbeats 1000000
/-! Tables of chains: the greatest closed table below the ropes; contradictory fleets; one rope more. No Python here. -/
namespace Hx
theorem le_foldl_range (f : Tab → Nat → Tab) (hf : ∀ d x a b, Le (f d x a b) (d a b)) (d : Tab) (k a b : Nat) : ∀ j, Le ((List.range (k + j)).foldl f d a b) ((List.range k).foldl f d a b)
  | 0 => Le.refl _
  | j + 1 => by
    rw [show k + (j + 1) = (k + j) + 1 by omega, List.range_succ, List.foldl_append]
    exact (hf _ _ _ _).trans (le_foldl_range f hf d k a b j)
theorem fwMid_le (n : Nat) (d : Tab) (m k a b : Nat) : Le (fwMid n d m k a b) (d a b) := le_fold _ (fun d i a b => le_fold _ (fun d j a b => step_le d m i j a b) _ d a b) _ d a b
theorem fwAll_mono (n : Nat) (d : Tab) {k : Nat} (h : k ≤ n) (a b : Nat) : Le (fwAll n d n a b) (fwAll n d k a b) := by
  have e := le_foldl_range (fun d m => fwMid n d m n) (fun d m a b => fwMid_le n d m n a b) d k a b (n - k)
  rw [show k + (n - k) = n by omega] at e
  exact e
theorem init_diag (n : Nat) (rs : List Rope) {i : Nat} (h : i < n) : Le (ropesD (baseD n) rs i i) (some 0) := by
  refine (ropes_le rs _ i i).trans ?_
  unfold baseD
  rw [if_pos ⟨rfl, h⟩]
  exact Le.refl _
/-- no circle of negative length shows: then no diagonal ever was negative -/
theorem diag_all {n : Nat} {rs : List Rope} (hD : Diag n (chainTab n rs)) : ∀ k, k ≤ n → Diag n (fwAll n (ropesD (baseD n) rs) k) := fun k hk i hi => by
  obtain ⟨z, ez, hz⟩ := ((all_le n (ropesD (baseD n) rs) k i i).trans (init_diag n rs hi)) 0 rfl
  have e := fwAll_mono n (ropesD (baseD n) rs) hk i i z ez
  obtain ⟨y, ey, hy⟩ := e
  have e2 : chainTab n rs i i = some y := ey
  rw [hD i hi] at e2
  cases e2
  rw [ez]
  congr 1
  omega
theorem chain_closed {n : Nat} {rs : List Rope} (hD : Diag n (chainTab n rs)) : Closed n (chainTab n rs) n := by
  have key : ∀ k, k ≤ n → Closed n (fwAll n (ropesD (baseD n) rs) k) k := by
    intro k
    induction k with
    | zero => exact fun _ m hm => absurd hm (Nat.not_lt_zero m)
    | succ k ih =>
      intro hk
      rw [fwAll_succ]
      exact closed_mid (by omega) (diag_all hD k (by omega)) (ih (by omega))
  exact key n (Nat.le_refl n)
/-- the lengths' bound -/
def BndT (d : Tab) (B : Int) : Prop := ∀ a b p, d a b = some p → p ≤ B
theorem bnd_keep {d : Tab} {B : Int} (h : BndT d B) {i j : Nat} {l : Int} (hl : l ≤ B) : BndT (keepD d i j l) B := fun a b p e => by
  rcases keep_cases d i j l with ⟨k, _⟩ | ⟨k, _⟩
  · rw [k] at e
    by_cases hab : a = i ∧ b = j
    · obtain ⟨rfl, rfl⟩ := hab
      rw [setD_at] at e
      cases e
      exact hl
    · rw [setD_ne d l hab] at e
      exact h a b p e
  · rw [k] at e
    exact h a b p e
theorem bnd_ropes {B : Int} : ∀ (rs : List Rope) {d : Tab}, BndT d B → (∀ r ∈ rs, r.l ≤ B) → BndT (ropesD d rs) B
  | [], _, h, _ => h
  | r :: rs, d, h, hr => bnd_ropes rs (d := keepD d r.f.toNat r.r.toNat r.l) (bnd_keep h (hr r List.mem_cons_self)) fun q hq => hr q (List.mem_cons_of_mem _ hq)
theorem bnd_mid {n : Nat} {d : Tab} {m : Nat} {B : Int} (h0 : d m m = some 0) (hB : 0 ≤ B) (h : BndT d B) : BndT (fwMid n d m n) (2 * B) := fun a b p e => by
  rcases (pass_mid n h0 n).1 a b with q | ⟨x, y, e1, e2, e3, _⟩
  · rw [q] at e
    have := h a b p e
    omega
  · rw [e] at e3
    cases e3
    have := h a m x e1
    have := h m b y e2
    omega
theorem chain_bnd {n : Nat} {rs : List Rope} (hD : Diag n (chainTab n rs)) {B : Int} (hB : 0 ≤ B) (hr : ∀ r ∈ rs, r.l ≤ B) : BndT (chainTab n rs) (2 ^ n * B) := by
  have key : ∀ k, k ≤ n → BndT (fwAll n (ropesD (baseD n) rs) k) (2 ^ k * B) := by
    intro k
    induction k with
    | zero =>
      intro _
      have e : (2 ^ 0 * B : Int) = B := by omega
      rw [e]
      refine bnd_ropes rs (fun a b p e => ?_) hr
      unfold baseD at e
      split at e
      · cases e
        exact hB
      · cases e
    | succ k ih =>
      intro hk
      rw [fwAll_succ]
      have e : (2 ^ (k + 1) * B : Int) = 2 * (2 ^ k * B) := by
        rw [Int.pow_succ, Int.mul_comm (2 ^ k) 2, Int.mul_assoc]
      rw [e]
      exact bnd_mid (diag_all hD k (by omega) k (by omega)) (Int.mul_nonneg (Int.le_of_lt (Int.pow_pos (by decide))) hB) (ih (by omega))
  exact key n (Nat.le_refl n)
/-! the greatest closed table below the ropes -/
def Inside (n : Nat) (d : Tab) : Prop := ∀ a b p, d a b = some p → a < n ∧ b < n
def Below (E d : Tab) : Prop := ∀ a b, Le (E a b) (d a b)
theorem below_keep {E d : Tab} (h : Below E d) {i j : Nat} {l : Int} (hl : Le (E i j) (some l)) : Below E (keepD d i j l) := fun a b => by
  rcases keep_cases d i j l with ⟨k, _⟩ | ⟨k, _⟩
  · rw [k]
    by_cases hab : a = i ∧ b = j
    · obtain ⟨rfl, rfl⟩ := hab
      rw [setD_at]
      exact hl
    · rw [setD_ne d l hab]
      exact h a b
  · rw [k]
    exact h a b
theorem below_ropes {E : Tab} : ∀ (rs : List Rope) {d : Tab}, Below E d → (∀ r ∈ rs, Le (E r.f.toNat r.r.toNat) (some r.l)) → Below E (ropesD d rs)
  | [], _, h, _ => h
  | r :: rs, d, h, hr => below_ropes rs (d := keepD d r.f.toNat r.r.toNat r.l) (below_keep h (hr r List.mem_cons_self)) fun q hq => hr q (List.mem_cons_of_mem _ hq)
theorem inside_keep {n : Nat} {d : Tab} (h : Inside n d) {i j : Nat} {l : Int} (hi : i < n) (hj : j < n) : Inside n (keepD d i j l) := fun a b p e => by
  by_cases hab : a = i ∧ b = j
  · exact ⟨hab.1 ▸ hi, hab.2 ▸ hj⟩
  · rw [keep_ne d l hab] at e
    exact h a b p e
theorem inside_ropes {n : Nat} : ∀ (rs : List Rope) {d : Tab}, Inside n d → (∀ r ∈ rs, r.f.toNat < n ∧ r.r.toNat < n) → Inside n (ropesD d rs)
  | [], _, h, _ => h
  | r :: rs, d, h, hr => inside_ropes rs (d := keepD d r.f.toNat r.r.toNat r.l) (inside_keep h (hr r List.mem_cons_self).1 (hr r List.mem_cons_self).2) fun q hq => hr q (List.mem_cons_of_mem _ hq)
theorem inside_base (n : Nat) : Inside n (baseD n) := fun a b p e => by
  unfold baseD at e
  split at e
  · rename_i h
    exact ⟨h.2, h.1 ▸ h.2⟩
  · cases e
theorem step_both {E : Tab} {n m i j : Nat} (hE : Closed n E n) (hm : m < n) {d : Tab} (h : Below E d ∧ Inside n d) : Below E (fwStep d m i j) ∧ Inside n (fwStep d m i j) := by
  rcases step_cases d m i j with ⟨e, _⟩ | ⟨a, b, e1, e2, e⟩
  · rw [e]
    exact h
  · rw [e]
    obtain ⟨hi, _⟩ := h.2 _ _ _ e1
    obtain ⟨_, hj⟩ := h.2 _ _ _ e2
    refine ⟨below_keep h.1 ?_, inside_keep h.2 hi hj⟩
    obtain ⟨x, ex, hx⟩ := h.1 _ _ _ e1
    obtain ⟨y, ey, hy⟩ := h.1 _ _ _ e2
    exact le_some (hE m hm i hi j hj x y ex ey) (by omega)
theorem fold_both {α : Type} {E : Tab} {n : Nat} (f : Tab → α → Tab) (hf : ∀ d a, Below E d ∧ Inside n d → Below E (f d a) ∧ Inside n (f d a)) : ∀ (l : List α) {d : Tab}, Below E d ∧ Inside n d → Below E (l.foldl f d) ∧ Inside n (l.foldl f d)
  | [], _, h => h
  | a :: l, d, h => fold_both f hf l (hf d a h)
theorem fold_range_both {E : Tab} {n : Nat} (f : Tab → Nat → Tab) (hf : ∀ d a, a < n → Below E d ∧ Inside n d → Below E (f d a) ∧ Inside n (f d a)) {d : Tab} (h : Below E d ∧ Inside n d) : ∀ k, k ≤ n → Below E ((List.range k).foldl f d) ∧ Inside n ((List.range k).foldl f d)
  | 0, _ => h
  | k + 1, hk => by
    rw [List.range_succ, List.foldl_append]
    exact hf _ _ (by omega) (fold_range_both f hf h k (by omega))
theorem chain_both {n : Nat} {rs : List Rope} {E : Tab} (hE : Closed n E n) (h0 : Diag n E) (hr : ∀ r ∈ rs, Le (E r.f.toNat r.r.toNat) (some r.l)) (hin : ∀ r ∈ rs, r.f.toNat < n ∧ r.r.toNat < n) : Below E (chainTab n rs) ∧ Inside n (chainTab n rs) := by
  refine fold_range_both (fun d m => fwMid n d m n) (fun d m hm h => fold_both _ (fun d i h => fold_both _ (fun d j h => step_both hE hm h) _ h) _ h) ⟨below_ropes rs (fun a b => ?_) hr, inside_ropes rs (inside_base n) hin⟩ n (Nat.le_refl n)
  unfold baseD
  split
  · rename_i h
    rw [← h.1, h0 a h.2]
    exact Le.refl _
  · exact fun y e => by cases e
theorem le_anti {x y : Option Int} (h : Le x y) (k : Le y x) : x = y := by
  cases x with
  | none =>
    cases y with
    | none => rfl
    | some b => obtain ⟨z, e, _⟩ := h b rfl; cases e
  | some a =>
    obtain ⟨z, e, hz⟩ := k a rfl
    cases e
    obtain ⟨u, e, hu⟩ := h z rfl
    cases e
    congr 1
    omega
/-- a closed table with zero diagonal, below the ropes, and that a chain reaches: it is the table -/
theorem chain_unique {n : Nat} {rs : List Rope} {E : Tab} (hE : Closed n E n) (h0 : Diag n E) (hr : ∀ r ∈ rs, Le (E r.f.toNat r.r.toNat) (some r.l)) (hin : ∀ r ∈ rs, r.f.toNat < n ∧ r.r.toNat < n) (hle : Below (chainTab n rs) E) : ∀ a b, chainTab n rs a b = E a b :=
  fun a b => le_anti (hle a b) ((chain_both hE h0 hr hin).1 a b)
/-! places that keep all ropes, of a closed table -/
theorem max_ex (g : Nat → Option Int) : ∀ n, ∃ y : Int, (∀ i, i < n → ∀ p, g i = some p → -p ≤ y) ∧ (y = 0 ∨ ∃ i, i < n ∧ ∃ p, g i = some p ∧ y = -p)
  | 0 => ⟨0, fun i h => absurd h (Nat.not_lt_zero i), .inl rfl⟩
  | n + 1 => by
    obtain ⟨y, h1, h2⟩ := max_ex g n
    have old : y = 0 ∨ ∃ i, i < n + 1 ∧ ∃ p, g i = some p ∧ y = -p := by
      rcases h2 with h2 | ⟨i, hi, p, e, k⟩
      · exact .inl h2
      · exact .inr ⟨i, by omega, p, e, k⟩
    cases hg : g n with
    | none =>
      refine ⟨y, fun i hi p e => ?_, old⟩
      by_cases q : i = n
      · rw [q, hg] at e
        cases e
      · exact h1 i (by omega) p e
    | some p =>
      by_cases hp : -p ≤ y
      · refine ⟨y, fun i hi q e => ?_, old⟩
        by_cases z : i = n
        · rw [z, hg] at e
          cases e
          exact hp
        · exact h1 i (by omega) q e
      · refine ⟨-p, fun i hi q e => ?_, .inr ⟨n, by omega, p, hg, rfl⟩⟩
        by_cases z : i = n
        · rw [z, hg] at e
          cases e
          omega
        · have := h1 i (by omega) q e
          omega
theorem pot_of {n : Nat} {rs : List Rope} (hD : Diag n (chainTab n rs)) (hin : ∀ r ∈ rs, r.f.toNat < n ∧ r.r.toNat < n) : ∃ y : Nat → Int, ∀ r ∈ rs, HoldsR y r := by
  have hC := chain_closed hD
  refine ⟨fun j => Classical.choose (max_ex (fun i => chainTab n rs i j) n), fun r hr => ?_⟩
  obtain ⟨f1, f2⟩ := Classical.choose_spec (max_ex (fun i => chainTab n rs i r.f.toNat) n)
  obtain ⟨r1, r2⟩ := Classical.choose_spec (max_ex (fun i => chainTab n rs i r.r.toNat) n)
  unfold HoldsR
  show Classical.choose (max_ex (fun i => chainTab n rs i r.f.toNat) n) - Classical.choose (max_ex (fun i => chainTab n rs i r.r.toNat) n) ≤ r.l
  generalize Classical.choose (max_ex (fun i => chainTab n rs i r.f.toNat) n) = yf at f1 f2
  generalize Classical.choose (max_ex (fun i => chainTab n rs i r.r.toNat) n) = yr at r1 r2
  obtain ⟨hf, hr'⟩ := hin r hr
  obtain ⟨z, ez, hz⟩ := chain_rope (n := n) hr r.l rfl
  obtain ⟨i, hi, p, ep, he⟩ : ∃ i, i < n ∧ ∃ p, chainTab n rs i r.f.toNat = some p ∧ yf = -p := by
    rcases f2 with q | q
    · exact ⟨r.f.toNat, hf, 0, hD _ hf, by omega⟩
    · exact q
  obtain ⟨u, eu, hu⟩ := hC r.f.toNat hf i hi r.r.toNat hr' p z ep ez _ rfl
  have := r1 i hi u eu
  omega
theorem diag_of_pot {n : Nat} {rs : List Rope} {y : Nat → Int} (h : ∀ r ∈ rs, HoldsR y r) : Diag n (chainTab n rs) := (chain_good h).1
theorem not_diag {n : Nat} {rs : List Rope} (h : ¬ Diag n (chainTab n rs)) : ∃ i, i < n ∧ ∃ x, chainTab n rs i i = some x ∧ x < 0 := by
  refine Classical.byContradiction fun hn => h fun i hi => ?_
  obtain ⟨z, ez, hz⟩ := chain_diag (n := n) (rs := rs) hi 0 rfl
  rw [ez]
  congr 1
  refine Classical.byContradiction fun hz2 => hn ⟨i, hi, z, ez, by omega⟩
/-! one rope more -/
def viaD (d : Tab) (q : Rope) (a b : Nat) : Option Int := match d a q.f.toNat, d q.r.toNat b with
  | some x, some y => some (x + q.l + y)
  | _, _ => none
def omin : Option Int → Option Int → Option Int
  | none, y => y
  | x, none => x
  | some x, some y => some (min x y)
def moreD (d : Tab) (q : Rope) : Tab := fun a b => omin (d a b) (viaD d q a b)
theorem omin_some {x y : Option Int} {p : Int} (h : omin x y = some p) : (x = some p ∧ ∀ z, y = some z → p ≤ z) ∨ (y = some p ∧ ∀ z, x = some z → p ≤ z) := by
  cases x with
  | none => exact .inr ⟨h, fun z e => by cases e⟩
  | some a =>
    cases y with
    | none => exact .inl ⟨h, fun z e => by cases e⟩
    | some b =>
      have e : min a b = p := Option.some.inj h
      by_cases k : a ≤ b
      · rw [Int.min_eq_left k] at e
        subst e
        exact .inl ⟨rfl, fun z e => by cases e; exact k⟩
      · rw [Int.min_eq_right (by omega)] at e
        subst e
        exact .inr ⟨rfl, fun z e => by cases e; omega⟩
theorem omin_le1 (x y : Option Int) : Le (omin x y) x := fun p e => by
  subst e
  cases y with
  | none => exact ⟨p, rfl, Int.le_refl _⟩
  | some b => exact ⟨min p b, rfl, Int.min_le_left _ _⟩
theorem omin_le2 (x y : Option Int) : Le (omin x y) y := fun p e => by
  subst e
  cases x with
  | none => exact ⟨p, rfl, Int.le_refl _⟩
  | some b => exact ⟨min b p, rfl, Int.min_le_right _ _⟩
theorem via_some {d : Tab} {q : Rope} {a b : Nat} {p : Int} (h : viaD d q a b = some p) : ∃ x y, d a q.f.toNat = some x ∧ d q.r.toNat b = some y ∧ p = x + q.l + y := by
  unfold viaD at h
  split at h
  · rename_i x y e1 e2
    exact ⟨x, y, e1, e2, (Option.some.inj h).symm⟩
  · cases h
theorem via_mk {d : Tab} {q : Rope} {a b : Nat} {x y : Int} (h1 : d a q.f.toNat = some x) (h2 : d q.r.toNat b = some y) : viaD d q a b = some (x + q.l + y) := by
  unfold viaD
  rw [h1, h2]
section
variable {n : Nat} {d : Tab} {q : Rope} (hC : Closed n d n) (hD : Diag n d) (hq : q.f.toNat < n ∧ q.r.toNat < n) (ok : ∀ b, d q.r.toNat q.f.toNat = some b → 0 ≤ b + q.l)
include hC hD hq ok
theorem more_closed : Closed n (moreD d q) n := by
  intro m hm i hi j hj x y ex ey
  obtain ⟨hf, hr⟩ := hq
  rcases omin_some ex with ⟨e1, _⟩ | ⟨e1, _⟩ <;> rcases omin_some ey with ⟨e2, _⟩ | ⟨e2, _⟩
  · exact (omin_le1 _ _).trans (hC m hm i hi j hj x y e1 e2)
  · obtain ⟨u, v, k1, k2, rfl⟩ := via_some e2
    obtain ⟨z, ez, hz⟩ := hC m hm i hi _ hf x u e1 k1 _ rfl
    exact le_some ((omin_le2 _ _).trans (by rw [via_mk ez k2]; exact Le.refl _)) (by omega)
  · obtain ⟨u, v, k1, k2, rfl⟩ := via_some e1
    obtain ⟨z, ez, hz⟩ := hC m hm _ hr j hj v y k2 e2 _ rfl
    exact le_some ((omin_le2 _ _).trans (by rw [via_mk k1 ez]; exact Le.refl _)) (by omega)
  · obtain ⟨u, v, k1, k2, rfl⟩ := via_some e1
    obtain ⟨u', v', k3, k4, rfl⟩ := via_some e2
    obtain ⟨z, ez, hz⟩ := hC m hm _ hr _ hf v u' k2 k3 _ rfl
    have := ok z ez
    exact le_some ((omin_le2 _ _).trans (by rw [via_mk k1 k4]; exact Le.refl _)) (by omega)
theorem more_diag : Diag n (moreD d q) := by
  intro i hi
  obtain ⟨hf, hr⟩ := hq
  obtain ⟨z, ez, hz⟩ := omin_le1 (d i i) (viaD d q i i) 0 (hD i hi)
  have e : moreD d q i i = some z := ez
  rw [e]
  congr 1
  rcases omin_some ez with ⟨e1, _⟩ | ⟨e1, _⟩
  · rw [hD i hi] at e1
    cases e1
    rfl
  · obtain ⟨u, v, k1, k2, rfl⟩ := via_some e1
    obtain ⟨w, ew, hw⟩ := hC i hi _ hr _ hf v u k2 k1 _ rfl
    have := ok w ew
    omega
end
/-- the table of a fleet with one rope more that makes no circle of negative length -/
theorem chain_more {n : Nat} {rs : List Rope} {q : Rope} (hD : Diag n (chainTab n rs)) (hin : ∀ r ∈ rs, r.f.toNat < n ∧ r.r.toNat < n) (hq : q.f.toNat < n ∧ q.r.toNat < n) (ok : ∀ b, chainTab n rs q.r.toNat q.f.toNat = some b → 0 ≤ b + q.l) :
    Diag n (chainTab n (rs ++ [q])) ∧ ∀ a b, chainTab n (rs ++ [q]) a b = moreD (chainTab n rs) q a b := by
  have hC := chain_closed hD
  have hin2 : ∀ r ∈ rs ++ [q], r.f.toNat < n ∧ r.r.toNat < n := fun r hr => by
    rcases List.mem_append.mp hr with h | h
    · exact hin r h
    · rw [List.mem_singleton.mp h]
      exact hq
  have mC := more_closed hC hD hq ok
  have mD := more_diag hC hD hq ok
  have mR : ∀ r ∈ rs ++ [q], Le (moreD (chainTab n rs) q r.f.toNat r.r.toNat) (some r.l) := fun r hr => by
    rcases List.mem_append.mp hr with h | h
    · exact (omin_le1 _ _).trans (chain_rope h)
    · rw [List.mem_singleton.mp h]
      refine (omin_le2 _ _).trans ?_
      rw [via_mk (hD _ hq.1) (hD _ hq.2)]
      exact fun y e => ⟨_, rfl, by cases e; omega⟩
  obtain ⟨hB, _⟩ := chain_both mC mD mR hin2
  have hD2 : Diag n (chainTab n (rs ++ [q])) := fun i hi => by
    obtain ⟨z, ez, hz⟩ := chain_diag (n := n) (rs := rs ++ [q]) hi 0 rfl
    obtain ⟨y, ey, hy⟩ := hB i i z ez
    rw [mD i hi] at ey
    cases ey
    rw [ez]
    congr 1
    omega
  refine ⟨hD2, chain_unique mC mD mR hin2 fun a b p e => ?_⟩
  have hC2 := chain_closed hD2
  have h1 : Below (chainTab n (rs ++ [q])) (chainTab n rs) := (chain_both hC2 hD2 (fun r hr => chain_rope (List.mem_append_left _ hr)) hin).1
  rcases omin_some e with ⟨k, _⟩ | ⟨k, _⟩
  · exact h1 a b p k
  · obtain ⟨u, v, k1, k2, rfl⟩ := via_some k
    obtain ⟨u', f1, f2⟩ := h1 _ _ _ k1
    obtain ⟨v', g1, g2⟩ := h1 _ _ _ k2
    have h0 := chain_rope (n := n) (rs := rs ++ [q]) (r := q) (by simp)
    obtain ⟨l', l1, l2⟩ := h0 q.l rfl
    have ins := (chain_both hC hD (fun r hr => chain_rope hr) hin).2
    have ha := (ins _ _ _ k1).1
    have hb := (ins _ _ _ k2).2
    obtain ⟨z, ez, hz⟩ := hC2 _ hq.1 a ha _ hq.2 u' l' f1 l1 _ rfl
    obtain ⟨z2, ez2, hz2⟩ := hC2 _ hq.2 a ha b hb z v' ez g1 _ rfl
    exact ⟨z2, ez2, by omega⟩
/-- a rope that closes a circle of negative length -/
theorem chain_bad {n : Nat} {rs : List Rope} {q : Rope} (hin : ∀ r ∈ rs ++ [q], r.f.toNat < n ∧ r.r.toNat < n) {b : Int} (hb : chainTab n rs q.r.toNat q.f.toNat = some b) (h : b + q.l < 0) : ¬ Diag n (chainTab n (rs ++ [q])) := fun hD => by
  obtain ⟨y, hy⟩ := pot_of hD hin
  have h1 := sound_chain (n := n) (fun r hr => hy r (List.mem_append_left _ hr)) _ _ _ hb
  have h2 : HoldsR y q := hy q (by simp)
  unfold HoldsR at h2
  omega
end Hx

set_option linter.all false
set_option maxHeartbeats 1000000
/-! The search for a circle, as a function. No Python here. -/
namespace Hx
abbrev Pred := Nat → Option (Nat × Int)
/-- m steps back from v lead to u, over lengths of the sum s -/
inductive Back (pr : Pred) : Nat → Nat → Nat → Int → Prop
  | zero (v : Nat) : Back pr 0 v v 0
  | succ {m v f u : Nat} {l s : Int} (h : pr v = some (f, l)) (k : Back pr m f u s) : Back pr (m + 1) v u (l + s)
theorem Back.trans {pr : Pred} {m v u : Nat} {s : Int} (h : Back pr m v u s) : ∀ {m' x : Nat} {s' : Int}, Back pr m' u x s' → Back pr (m + m') v x (s + s') := by
  induction h with
  | zero v =>
    intro m' x s' k
    rw [Nat.zero_add, Int.zero_add]
    exact k
  | succ h _ ih =>
    intro m' x s' k
    rw [show ∀ a b : Nat, a + 1 + b = (a + b) + 1 by omega, Int.add_assoc]
    exact .succ h (ih k)
theorem Back.det {pr : Pred} {m v u : Nat} {s : Int} (h : Back pr m v u s) : ∀ {u' : Nat} {s' : Int}, Back pr m v u' s' → u' = u ∧ s' = s := by
  induction h with
  | zero v =>
    intro u' s' k
    cases k
    exact ⟨rfl, rfl⟩
  | succ h _ ih =>
    intro u' s' k
    cases k with
    | succ h' k' =>
      rw [h] at h'
      cases h'
      obtain ⟨e1, e2⟩ := ih k'
      exact ⟨e1, by rw [e2]⟩
theorem Back.split {pr : Pred} : ∀ (a : Nat) {b v u : Nat} {s : Int}, Back pr (a + b) v u s → ∃ w s1 s2, Back pr a v w s1 ∧ Back pr b w u s2 ∧ s = s1 + s2
  | 0, b, v, u, s, h => ⟨v, 0, s, .zero v, by rw [Nat.zero_add] at h; exact h, by omega⟩
  | a + 1, b, v, u, s, h => by
    rw [show a + 1 + b = (a + b) + 1 by omega] at h
    cases h with
    | succ h k =>
      obtain ⟨w, s1, s2, k1, k2, rfl⟩ := Back.split a k
      exact ⟨w, _, s2, .succ h k1, k2, by omega⟩
theorem Back.snoc {pr : Pred} {m v u f : Nat} {s l : Int} (h : Back pr m v u s) (k : pr u = some (f, l)) : Back pr (m + 1) v f (s + l) := by
  have := h.trans (.succ k (.zero f))
  rw [Int.add_zero] at this
  exact this
def SumOk (L : Nat → Int) (pr : Pred) : Prop := ∀ v f l, pr v = some (f, l) → L f + l ≤ L v
theorem Back.sum {L : Nat → Int} {pr : Pred} (hL : SumOk L pr) {m v u : Nat} {s : Int} (h : Back pr m v u s) : L u + s ≤ L v := by
  induction h with
  | zero v => omega
  | succ h _ ih =>
    have := hL _ _ _ h
    omega
def putP (pr : Pred) (v f : Nat) (l : Int) : Pred := fun w => if w = v then some (f, l) else pr w
def NegC (pr : Pred) : Prop := ∀ m v s, 1 ≤ m → Back pr m v v s → s < 0
section
variable {L : Nat → Int} {pr : Pred} {v0 f : Nat} {l : Int}
theorem back_cut : ∀ {m w u : Nat} {s : Int}, Back (putP pr v0 f l) m w u s → Back pr m w u s ∨ ∃ a b s1 s2, Back pr a w v0 s1 ∧ Back (putP pr v0 f l) a w v0 s1 ∧ Back (putP pr v0 f l) b v0 u s2 ∧ a + b = m ∧ 1 ≤ b ∧ s = s1 + s2 := by
  intro m w u s h
  induction h with
  | zero v => exact .inl (.zero v)
  | @succ m v f' u l' s' h k ih =>
    by_cases e : v = v0
    · subst e
      exact .inr ⟨0, m + 1, 0, _, .zero v, .zero v, .succ h k, by omega, by omega, by omega⟩
    · have h' : pr v = some (f', l') := by
        unfold putP at h
        rw [if_neg e] at h
        exact h
      rcases ih with ih | ⟨a, b, s1, s2, k1, k2, k3, k4, k5, k6⟩
      · exact .inl (.succ h' ih)
      · exact .inr ⟨a + 1, b, _, s2, .succ h' k1, .succ h k2, k3, by omega, k5, by omega⟩
theorem neg_at (hL : SumOk L pr) (hlt : L f + l < L v0) : ∀ (B m : Nat), m ≤ B → ∀ s, 1 ≤ m → Back (putP pr v0 f l) m v0 v0 s → s < 0
  | 0, m, hB, s, h1, _ => by omega
  | B + 1, m, hB, s, h1, h => by
    cases h with
    | zero => omega
    | succ h k =>
      unfold putP at h
      rw [if_pos rfl] at h
      cases h
      rcases back_cut k with k | ⟨a, b, s1, s2, k1, k2, k3, k4, k5, k6⟩
      · have := k.sum hL
        omega
      · have := k1.sum hL
        have := neg_at hL hlt B b (by omega) s2 k5 k3
        omega
theorem neg_put (hL : SumOk L pr) (hn : NegC pr) (hlt : L f + l < L v0) : NegC (putP pr v0 f l) := fun m v s h1 h => by
  rcases back_cut h with k | ⟨a, b, s1, s2, k1, k2, k3, k4, k5, k6⟩
  · exact hn m v s h1 k
  · have := neg_at hL hlt (b + a) (b + a) (Nat.le_refl _) (s2 + s1) (by omega) (k3.trans k2)
    omega
end
theorem pigeon : ∀ (n : Nat) (f : Nat → Nat), (∀ i, i ≤ n → f i < n) → ∃ i j, i < j ∧ j ≤ n ∧ f i = f j
  | 0, f, h => absurd (h 0 (Nat.le_refl 0)) (Nat.not_lt_zero _)
  | n + 1, f, h => by
    by_cases hx : ∃ i, i ≤ n ∧ f i = f (n + 1)
    · obtain ⟨i, hi, e⟩ := hx
      exact ⟨i, n + 1, by omega, Nat.le_refl _, e⟩
    · have hne : ∀ i, i ≤ n → f i ≠ f (n + 1) := fun i hi e => hx ⟨i, hi, e⟩
      have hy := h (n + 1) (Nat.le_refl _)
      obtain ⟨i, j, h1, h2, e⟩ := pigeon n (fun i => if f i = n then f (n + 1) else f i) (fun i hi => by
        have := h i (by omega)
        have := hne i hi
        show (if f i = n then f (n + 1) else f i) < n
        split <;> omega)
      have e : (if f i = n then f (n + 1) else f i) = if f j = n then f (n + 1) else f j := e
      refine ⟨i, j, h1, by omega, ?_⟩
      have := hne i (by omega)
      have := hne j (by omega)
      split at e <;> split at e <;> omega
/-! the mirror -/
abbrev gI (c : List Int) (i : Nat) : Int := c.getD i 0
theorem gI_set (c : List Int) {g : Nat} (v : Int) (h : g < c.length) (i : Nat) : gI (c.set g v) i = if i = g then v else gI c i := by
  unfold gI
  rw [List.getD_eq_getElem?_getD, List.getElem?_set, List.getD_eq_getElem?_getD]
  by_cases e : g = i
  · subst e
    rw [if_pos rfl, if_pos h, if_pos rfl]
    rfl
  · rw [if_neg e, if_neg (fun z => e z.symm)]
structure BS where
  ls : List Int
  ps : List (Option Int)
  ch : Option Int
def bStep (s : BS) (k : Nat) (r : Rope) : BS := if gI s.ls r.f.toNat + r.l < gI s.ls r.r.toNat then ⟨s.ls.set r.r.toNat (gI s.ls r.f.toNat + r.l), s.ps.set r.r.toNat (some (k : Int)), some r.r⟩ else s
def bRun (rs : List Rope) (s : BS) : Nat → BS
  | 0 => s
  | i + 1 => match rs[i]? with
    | some r => bStep (bRun rs s i) i r
    | none => bRun rs s i
def bAll (n : Nat) (rs : List Rope) : Nat → BS
  | 0 => ⟨List.replicate n 0, List.replicate n none, none⟩
  | k + 1 => bRun rs { bAll n rs k with ch := none } rs.length
theorem bRun_succ {rs : List Rope} {s : BS} {i : Nat} {r : Rope} (h : rs[i]? = some r) : bRun rs s (i + 1) = bStep (bRun rs s i) i r := by
  show (match rs[i]? with | some r => bStep (bRun rs s i) i r | none => bRun rs s i) = _
  rw [h]
def prOf (rs : List Rope) (ps : List (Option Int)) : Pred := fun v => match ps.getD v none with
  | some e => (rs[e.toNat]?).map fun r => (r.f.toNat, r.l)
  | none => none
theorem prOf_set (rs : List Rope) (ps : List (Option Int)) {v k : Nat} {r : Rope} (hv : v < ps.length) (hk : rs[k]? = some r) : prOf rs (ps.set v (some (k : Int))) = putP (prOf rs ps) v r.f.toNat r.l := by
  funext w
  unfold prOf putP
  rw [List.getD_eq_getElem?_getD, List.getElem?_set]
  by_cases e : v = w
  · subst e
    rw [if_pos rfl, if_pos hv, if_pos rfl]
    show (rs[(k : Int).toNat]?).map _ = _
    rw [Int.toNat_natCast, hk]
    rfl
  · rw [if_neg e, if_neg (fun z => e z.symm), ← List.getD_eq_getElem?_getD]
def InR (n : Nat) (rs : List Rope) : Prop := ∀ r ∈ rs, r.f.toNat < n ∧ r.r.toNat < n ∧ (r.r.toNat : Int) = r.r
/-- what holds behind i ropes of round k -/
structure BI (n : Nat) (rs : List Rope) (k i : Nat) (s : BS) (c : Nat → Nat) : Prop where
  l1 : s.ls.length = n
  l2 : s.ps.length = n
  ok : ∀ v e, s.ps.getD v none = some e → ∃ j : Nat, e = j ∧ ∃ r, rs[j]? = some r ∧ r.r = v
  sum : SumOk (gI s.ls) (prOf rs s.ps)
  cnt : ∀ v f l, prOf rs s.ps v = some (f, l) → c v ≤ c f + 1
  one : ∀ v, v < n → 1 ≤ c v → ∃ f l, prOf rs s.ps v = some (f, l)
  le : ∀ v, c v ≤ k
  rel : ∀ j r, rs[j]? = some r → gI s.ls r.r.toNat ≤ gI s.ls r.f.toNat + r.l ∨ (j < i → k ≤ c r.f.toNat) ∧ k ≤ c r.f.toNat + 1
  chs : ∀ v, s.ch = some v → 0 ≤ v ∧ v < n ∧ c v.toNat = k
  chn : s.ch = none → ∀ v, c v + 1 ≤ k
  neg : NegC (prOf rs s.ps)
theorem prOf_none (rs : List Rope) (n : Nat) (v : Nat) : prOf rs (List.replicate n none) v = none := by
  have e : (List.replicate n (none : Option Int)).getD v none = none := by
    rw [List.getD_eq_getElem?_getD, List.getElem?_replicate]
    split <;> rfl
  unfold prOf
  rw [e]
theorem bi_start (n : Nat) (rs : List Rope) : BI n rs 1 0 { bAll n rs 0 with ch := none } fun _ => 0 := by
  have hn : ∀ v, prOf rs (List.replicate n none) v = none := prOf_none rs n
  refine ⟨List.length_replicate, List.length_replicate, fun v e h => ?_, fun v f l h => ?_, fun v f l h => ?_, fun v _ h => absurd h (by decide), fun v => Nat.zero_le _, fun j r h => .inr ⟨fun z => absurd z (Nat.not_lt_zero _), by omega⟩, fun v h => ?_, fun _ v => by omega, fun m v s h1 h => ?_⟩
  · have h : (List.replicate n (none : Option Int)).getD v none = some e := h
    rw [List.getD_eq_getElem?_getD, List.getElem?_replicate] at h
    split at h <;> cases h
  · have h : prOf rs (List.replicate n none) v = some (f, l) := h
    rw [hn] at h
    cases h
  · have h : prOf rs (List.replicate n none) v = some (f, l) := h
    rw [hn] at h
    cases h
  · cases h
  · have h : Back (prOf rs (List.replicate n none)) m v v s := h
    cases h with
    | zero => omega
    | succ h' _ =>
      rw [hn] at h'
      cases h'
theorem bi_next {n : Nat} {rs : List Rope} {k : Nat} {s : BS} {c : Nat → Nat} (h : BI n rs k rs.length s c) : BI n rs (k + 1) 0 { s with ch := none } c := by
  refine ⟨h.l1, h.l2, h.ok, h.sum, h.cnt, h.one, fun v => by have := h.le v; omega, fun j r hj => ?_, fun v e => (by cases e), fun _ v => (by have := h.le v; omega), h.neg⟩
  rcases h.rel j r hj with q | ⟨q, _⟩
  · exact .inl q
  · have := q (List.getElem?_eq_some_iff.mp hj).1
    exact .inr ⟨fun z => absurd z (Nat.not_lt_zero _), by omega⟩
theorem bi_step {n : Nat} {rs : List Rope} (ok : InR n rs) {k i : Nat} (hk : 1 ≤ k) {s : BS} {c : Nat → Nat} (h : BI n rs k i s c) {r : Rope} (hr : rs[i]? = some r) : ∃ c', BI n rs k (i + 1) (bStep s i r) c' := by
  obtain ⟨hf, hr', er⟩ := ok r (List.mem_of_getElem? hr)
  unfold bStep
  by_cases ht : gI s.ls r.f.toNat + r.l < gI s.ls r.r.toNat
  · rw [if_pos ht]
    have hcf : k ≤ c r.f.toNat + 1 := by
      rcases h.rel i r hr with q | ⟨_, q⟩
      · omega
      · exact q
    have hp := prOf_set rs s.ps (v := r.r.toNat) (k := i) (by rw [h.l2]; exact hr') hr
    have hg : ∀ v, gI (s.ls.set r.r.toNat (gI s.ls r.f.toNat + r.l)) v = if v = r.r.toNat then gI s.ls r.f.toNat + r.l else gI s.ls v := gI_set s.ls _ (by rw [h.l1]; exact hr')
    have hgle : ∀ v, gI (s.ls.set r.r.toNat (gI s.ls r.f.toNat + r.l)) v ≤ gI s.ls v := fun v => by
      rw [hg v]
      split
      · rename_i e
        rw [e]
        omega
      · omega
    refine ⟨fun v => if v = r.r.toNat then k else c v, ⟨by rw [List.length_set]; exact h.l1, by rw [List.length_set]; exact h.l2, fun v e he => ?_, ?_, ?_, ?_, fun v => ?_, fun j q hj => ?_, fun v e => ?_, fun e => (by cases e), ?_⟩⟩
    · have he : (s.ps.set r.r.toNat (some (i : Int))).getD v none = some e := he
      rw [List.getD_eq_getElem?_getD, List.getElem?_set] at he
      by_cases e' : r.r.toNat = v
      · rw [if_pos e', if_pos (by rw [h.l2]; exact hr')] at he
        cases he
        exact ⟨i, rfl, r, hr, by rw [← e', er]⟩
      · rw [if_neg e', ← List.getD_eq_getElem?_getD] at he
        exact h.ok v e he
    · intro v f l hv
      have hv : prOf rs (s.ps.set r.r.toNat (some (i : Int))) v = some (f, l) := hv
      rw [hp] at hv
      unfold putP at hv
      show gI (s.ls.set r.r.toNat (gI s.ls r.f.toNat + r.l)) f + l ≤ gI (s.ls.set r.r.toNat (gI s.ls r.f.toNat + r.l)) v
      split at hv
      · rename_i e
        cases hv
        have := hgle r.f.toNat
        rw [hg v, if_pos e]
        omega
      · rename_i e
        have := h.sum v f l hv
        have := hgle f
        rw [hg v, if_neg e]
        omega
    · intro v f l hv
      have hv : prOf rs (s.ps.set r.r.toNat (some (i : Int))) v = some (f, l) := hv
      rw [hp] at hv
      unfold putP at hv
      have hc := h.le
      show (if v = r.r.toNat then k else c v) ≤ (if f = r.r.toNat then k else c f) + 1
      split at hv
      · rename_i e
        cases hv
        rw [if_pos e]
        split <;> omega
      · rename_i e
        have := h.cnt v f l hv
        have := hc v
        rw [if_neg e]
        split <;> omega
    · intro v hv h1
      have h1 : 1 ≤ (if v = r.r.toNat then k else c v) := h1
      show ∃ f l, prOf rs (s.ps.set r.r.toNat (some (i : Int))) v = some (f, l)
      rw [hp]
      unfold putP
      split
      · exact ⟨_, _, rfl⟩
      · rename_i e
        rw [if_neg e] at h1
        exact h.one v hv h1
    · show (if v = r.r.toNat then k else c v) ≤ k
      have := h.le v
      split <;> omega
    · show gI (s.ls.set r.r.toNat (gI s.ls r.f.toNat + r.l)) q.r.toNat ≤ gI (s.ls.set r.r.toNat (gI s.ls r.f.toNat + r.l)) q.f.toNat + q.l ∨
        (j < i + 1 → k ≤ (if q.f.toNat = r.r.toNat then k else c q.f.toNat)) ∧ k ≤ (if q.f.toNat = r.r.toNat then k else c q.f.toNat) + 1
      by_cases e : q.f.toNat = r.r.toNat
      · rw [if_pos e]
        exact .inr ⟨fun _ => Nat.le_refl k, by omega⟩
      · rw [if_neg e]
        by_cases eji : j = i
        · subst eji
          rw [hr] at hj
          cases hj
          left
          rw [hg r.r.toNat, if_pos rfl, hg r.f.toNat, if_neg e]
          exact Int.le_refl _
        · rcases h.rel j q hj with z | ⟨z1, z2⟩
          · left
            rw [hg q.f.toNat, if_neg e]
            have := hgle q.r.toNat
            omega
          · exact .inr ⟨fun hji => z1 (by omega), z2⟩
    · cases e
      refine ⟨by omega, by omega, ?_⟩
      show (if r.r.toNat = r.r.toNat then k else c r.r.toNat) = k
      rw [if_pos rfl]
    · show NegC (prOf rs (s.ps.set r.r.toNat (some (i : Int))))
      rw [hp]
      exact neg_put h.sum h.neg ht
  · rw [if_neg ht]
    refine ⟨c, ⟨h.l1, h.l2, h.ok, h.sum, h.cnt, h.one, h.le, fun j q hj => ?_, h.chs, h.chn, h.neg⟩⟩
    by_cases eji : j = i
    · subst eji
      rw [hr] at hj
      cases hj
      left
      omega
    · rcases h.rel j q hj with z | ⟨z1, z2⟩
      · exact .inl z
      · exact .inr ⟨fun hji => z1 (by omega), z2⟩
theorem bi_run {n : Nat} {rs : List Rope} (ok : InR n rs) {k : Nat} (hk : 1 ≤ k) {s : BS} {c : Nat → Nat} (h : BI n rs k 0 s c) : ∀ i, i ≤ rs.length → ∃ c', BI n rs k i (bRun rs s i) c'
  | 0, _ => ⟨c, h⟩
  | i + 1, hi => by
    obtain ⟨c1, h1⟩ := bi_run ok hk h i (by omega)
    have hr : rs[i]? = some rs[i] := List.getElem?_eq_getElem (by omega)
    rw [bRun_succ hr]
    exact bi_step ok hk h1 hr
theorem bi_all {n : Nat} {rs : List Rope} (ok : InR n rs) : ∀ k, ∃ c, BI n rs (k + 1) rs.length (bAll n rs (k + 1)) c
  | 0 => bi_run ok (Nat.le_refl 1) (bi_start n rs) rs.length (Nat.le_refl _)
  | k + 1 => by
    obtain ⟨c, h⟩ := bi_all ok k
    exact bi_run ok (by omega) (bi_next h) rs.length (Nat.le_refl _)
/-- nothing changed in the last round: places keep all ropes -/
theorem all_still {n : Nat} {rs : List Rope} (ok : InR n rs) {k : Nat} (h : (bAll n rs (k + 1)).ch = none) : ∀ r ∈ rs, HoldsR (fun i => - gI (bAll n rs (k + 1)).ls i) r := fun r hr => by
  obtain ⟨c, B⟩ := bi_all ok k
  obtain ⟨j, hj⟩ := List.mem_iff_getElem?.mp hr
  unfold HoldsR
  rcases B.rel j r hj with q | ⟨q, _⟩
  · show - gI (bAll n rs (k + 1)).ls r.f.toNat - - gI (bAll n rs (k + 1)).ls r.r.toNat ≤ r.l
    omega
  · have := q (List.getElem?_eq_some_iff.mp hj).1
    have := B.chn h r.f.toNat
    omega
theorem prOf_lt {n : Nat} {rs : List Rope} (ok : InR n rs) {ps : List (Option Int)} {v f : Nat} {l : Int} (h : prOf rs ps v = some (f, l)) : f < n := by
  unfold prOf at h
  split at h
  · rename_i e _
    cases hr : rs[e.toNat]? with
    | none =>
      rw [hr] at h
      cases h
    | some r =>
      rw [hr] at h
      cases h
      exact (ok r (List.mem_of_getElem? hr)).1
  · cases h
/-- what the way back needs: k steps are there, then a circle -/
structure Way (n : Nat) (pr : Pred) (v : Nat) : Prop where
  all : ∀ j, j ≤ n → ∃ u s, u < n ∧ Back pr j v u s
  circ : ∀ u s, Back pr n v u s → ∃ p s', 1 ≤ p ∧ p ≤ n ∧ Back pr p u u s'
theorem way_of {n : Nat} {pr : Pred} {v : Nat} (hall : ∀ j, j ≤ n → ∃ u s, u < n ∧ Back pr j v u s) : Way n pr v := by
  refine ⟨hall, fun u s hu => ?_⟩
  have hch : ∀ j, ∃ u, u < n ∨ n < j := fun j => by
    by_cases h : j ≤ n
    · obtain ⟨u, _, h1, _⟩ := hall j h
      exact ⟨u, .inl h1⟩
    · exact ⟨0, .inr (by omega)⟩
  have sel : ∃ F : Nat → Nat, ∀ j, j ≤ n → F j < n ∧ ∃ s, Back pr j v (F j) s := by
    refine ⟨fun j => if h : j ≤ n then Classical.choose (hall j h) else 0, fun j hj => ?_⟩
    have h := Classical.choose_spec (hall j hj)
    simp only [dif_pos hj]
    obtain ⟨s, h1, h2⟩ := h
    exact ⟨h1, s, h2⟩
  obtain ⟨F, hF⟩ := sel
  obtain ⟨i, j, hij, hj, e⟩ := pigeon n F fun i hi => (hF i hi).1
  obtain ⟨_, si, bi⟩ := hF i (by omega)
  obtain ⟨_, sj, bj⟩ := hF j hj
  rw [← e] at bj
  -- v →i→ w →(j-i)→ w ; w →(n-i)→ u
  have bj2 : Back pr (i + (j - i)) v (F i) sj := by
    rw [show i + (j - i) = j by omega]
    exact bj
  obtain ⟨w1, a1, a2, c1, c2, _⟩ := Back.split i bj2
  obtain ⟨e1, _⟩ := bi.det c1
  subst e1
  have hu2 : Back pr (i + (n - i)) v u s := by
    rw [show i + (n - i) = n by omega]
    exact hu
  obtain ⟨w2, b1, b2, d1, d2, _⟩ := Back.split i hu2
  obtain ⟨e2, _⟩ := c1.det d1
  subst e2
  have f1 := c2.trans d2
  rw [show (j - i) + (n - i) = (n - i) + (j - i) by omega] at f1
  obtain ⟨w3, g1, g2, k1, k2, _⟩ := Back.split (n - i) f1
  obtain ⟨e3, _⟩ := d2.det k1
  subst e3
  exact ⟨j - i, g2, by omega, by omega, k2⟩
theorem way_all {n : Nat} {rs : List Rope} (ok : InR n rs) {k : Nat} (hk : n = k + 1) {v : Int} (h : (bAll n rs n).ch = some v) : 0 ≤ v ∧ v < n ∧ Way n (prOf rs (bAll n rs n).ps) v.toNat := by
  subst hk
  obtain ⟨c, B⟩ := bi_all ok k (n := k + 1)
  obtain ⟨h0, h1, hc⟩ := B.chs v h
  refine ⟨h0, h1, way_of ?_⟩
  have key : ∀ j, j ≤ k + 1 → ∃ u s, u < k + 1 ∧ Back (prOf rs (bAll (k + 1) rs (k + 1)).ps) j v.toNat u s ∧ k + 1 ≤ c u + j := by
    intro j
    induction j with
    | zero => exact fun _ => ⟨v.toNat, 0, by omega, .zero _, by omega⟩
    | succ j ih =>
      intro hj
      obtain ⟨u, s, hu, b, hcu⟩ := ih (by omega)
      obtain ⟨f, l, hp⟩ := B.one u hu (by omega)
      have := B.cnt u f l hp
      exact ⟨f, _, prOf_lt ok hp, b.snoc hp, by omega⟩
  exact fun j hj => by
    obtain ⟨u, s, hu, b, _⟩ := key j hj
    exact ⟨u, s, hu, b⟩
theorem neg_all {n : Nat} {rs : List Rope} (ok : InR n rs) {k : Nat} (hk : n = k + 1) : NegC (prOf rs (bAll n rs n).ps) := by
  subst hk
  obtain ⟨c, B⟩ := bi_all ok k (n := k + 1)
  exact B.neg
theorem ps_ok {n : Nat} {rs : List Rope} (ok : InR n rs) {k : Nat} (hk : n = k + 1) : (bAll n rs n).ls.length = n ∧ (bAll n rs n).ps.length = n ∧ ∀ v e, (bAll n rs n).ps.getD v none = some e → ∃ j : Nat, e = j ∧ ∃ r, rs[j]? = some r ∧ r.r = v := by
  subst hk
  obtain ⟨c, B⟩ := bi_all ok k (n := k + 1)
  exact ⟨B.l1, B.l2, B.ok⟩
/-! circles -/
/-- behind the end e the ropes cs lead on to e', of the length t -/
inductive Links (rs : List Rope) : Int → List Nat → Int → Int → Prop
  | nil (e : Int) : Links rs e [] e 0
  | cons {e e' t : Int} {c : Nat} {cs : List Nat} {r : Rope} (h : rs[c]? = some r) (hf : r.f = e) (k : Links rs r.r cs e' t) : Links rs e (c :: cs) e' (r.l + t)
theorem Links.snoc {rs : List Rope} {e e' t : Int} {cs : List Nat} (h : Links rs e cs e' t) {c : Nat} {r : Rope} (hc : rs[c]? = some r) (hf : r.f = e') : Links rs e (cs ++ [c]) r.r (t + r.l) := by
  induction h with
  | nil e =>
    have := Links.cons hc hf (.nil r.r)
    rw [Int.add_zero] at this
    rw [Int.zero_add]
    exact this
  | cons h hf' _ ih =>
    rw [Int.add_assoc]
    exact .cons h hf' (ih hf)
/-- the ropes cs form a circle of the length t -/
def Circ (rs : List Rope) (cs : List Nat) (t : Int) : Prop := cs ≠ [] ∧ ∃ e, Links rs e cs e t ∧ ∃ c r, cs.getLast? = some c ∧ rs[c]? = some r ∧ r.r = e
theorem Links.sum {rs : List Rope} {y : Nat → Int} (hy : ∀ r ∈ rs, HoldsR y r) {e e' t : Int} {cs : List Nat} (h : Links rs e cs e' t) : y e.toNat - y e'.toNat ≤ t := by
  induction h with
  | nil e => omega
  | cons h hf _ ih =>
    have k := hy _ (List.mem_of_getElem? h)
    unfold HoldsR at k
    rw [hf] at k
    omega
theorem Links.old {rs rs' : List Rope} {e e' t : Int} {cs : List Nat} (h : Links (rs ++ rs') e cs e' t) (hn : ∀ c ∈ cs, c < rs.length) : Links rs e cs e' t := by
  induction h with
  | nil e => exact .nil e
  | cons h hf _ ih =>
    refine .cons ?_ hf (ih fun c hc => hn c (List.mem_cons_of_mem _ hc))
    rw [List.getElem?_append_left (hn _ List.mem_cons_self)] at h
    exact h
theorem Links.lt {rs : List Rope} {e e' t : Int} {cs : List Nat} (h : Links rs e cs e' t) : ∀ c ∈ cs, c < rs.length := by
  induction h with
  | nil e => exact fun c hc => by cases hc
  | cons h _ _ ih =>
    intro c hc
    rcases List.mem_cons.mp hc with rfl | hc
    · exact (List.getElem?_eq_some_iff.mp h).1
    · exact ih c hc
/-- a circle of negative length goes by the rope that is new -/
theorem circ_new {rs : List Rope} {q : Rope} {cs : List Nat} {t : Int} (h : Circ (rs ++ [q]) cs t) (ht : t < 0) {y : Nat → Int} (hy : ∀ r ∈ rs, HoldsR y r) : rs.length ∈ cs := by
  refine Classical.byContradiction fun hn => ?_
  obtain ⟨_, e, hl, _⟩ := h
  have k := hl.old fun c hc => by
    have := hl.lt c hc
    rw [List.length_append, List.length_singleton] at this
    have : c ≠ rs.length := fun z => hn (z ▸ hc)
    omega
  have := k.sum hy
  omega
theorem circ_none {rs : List Rope} {cs : List Nat} {t : Int} (h : Circ rs cs t) (ht : t < 0) {y : Nat → Int} (hy : ∀ r ∈ rs, HoldsR y r) : False := by
  obtain ⟨_, e, hl, _⟩ := h
  have := hl.sum hy
  omega
end Hx

set_option Elab.async false
set_option linter.all false
set_option maxRecDepth 100000
set_option maxHeartbeats 4000000
namespace Hx
open PySem PySem.Spec PyProof.Rows L2
local macro_rules | `(tactic| walk_at "rd") => `(tactic| (try simp only [q_var, q_c, q_op, q_un, q_rI, q_rI0, q_rU, q_rEq, q_rNe, q_test, q_tB, q_and, q_or, q_not, q_andV, q_orV, q_notV, q_if, q_isN, q_notN, q_chain, q_next, q_seq, q_break, q_cont, q_drop, q_ret, q_retN, q_ifS, q_never, q_gN, q_gNil, q_gCons, q_gTup, q_gSub, q_asg, q_par, q_aug, q_nil, q_cons, q_tup, q_lst, q_call, q_cb, q_noPart, q_part, q_sl, q_bm0, q_bm, q_yes, q_for, q_lc, q_iList, q_iTup, q_iRng1, q_iEnumT, q_iEnum, q_iRng2, q_iZipA, q_iZipM, q_ipI, q_ckw, q_len, q_listOf, q_tupleOf, L2.start, cx_K, wipe, List.map_cons, List.map_nil, List.length_cons, List.length_nil, List.cons_append, List.nil_append, List.append_nil, List.replicate, List.getElem?_cons_zero, List.getElem?_cons_succ, List.set_cons_zero, List.set_cons_succ, Option.some.injEq, List.cons.injEq, exists_eq_left', exists_eq_left, exists_and_left, V.int.injEq, V.bl.injEq, V.ref.injEq, if_true, if_false, Bool.not_true, Bool.not_false, true_and, and_true, Bool.false_eq_true, ite_true, ite_false, Nat.reduceAdd, Nat.reduceSub, reduceCtorEq, decide_false, decide_true, Int.toNat_natCast, false_and, exists_false, or_false, false_or]))
section
variable {P : Program} {w : World} {K : PySem.W.Frag} {mg : Str → Option Value} {base : Heap}
/-- the tuple of ropes at b -/
def RopesAt (K : PySem.W.Frag) (H : Hp) (b : Addr) (rs : List Rope) : Prop := ∃ xs, SqT K H b xs ∧ xs.length = rs.length ∧ ∀ (i : Nat) (r : Rope), rs[i]? = some r → ∃ v, xs[i]? = some v ∧ RopeV K H v r
theorem RopesAt.mono {H H' : Hp} {b : Addr} {rs : List Rope} (h : RopesAt K H b rs) (e : Same H H') : RopesAt K H' b rs := by
  obtain ⟨xs, h1, h2, h3⟩ := h
  refine ⟨xs, sqt_same e h1, h2, fun i r hr => ?_⟩
  obtain ⟨v, hv, k⟩ := h3 i r hr
  exact ⟨v, hv, k.mono e⟩
theorem RopesAt.get {H : Hp} {b : Addr} {rs : List Rope} (h : RopesAt K H b rs) {i : Nat} {r : Rope} (hr : rs[i]? = some r) {Q : VK} (q : ∀ c, SqT K H c [.int r.f, .int r.r, .int r.l] → Q (.ref c) H) : rIxT K (.ref b) (.int i) H Q := by
  obtain ⟨xs, h1, h2, h3⟩ := h
  obtain ⟨v, hv, c, rfl, hc⟩ := h3 i r hr
  exact ⟨b, _, i, _, rfl, rfl, h1, atI_nat hv, q c hc⟩
theorem opt_at {es : List (Option Int)} {i : Nat} (h : i < es.length) : (es.map ovV)[i]? = some (ovV (es.getD i none)) := by
  rw [List.getElem?_map, List.getD_eq_getElem?_getD, List.getElem?_eq_getElem h]
  rfl
def LastOk (n : Nat) (rs : List Rope) (ps : List (Option Int)) : Prop := ps.length = n ∧ ∀ v e, ps.getD v none = some e → ∃ j : Nat, e = j ∧ ∃ r, rs[j]? = some r ∧ r.r = v
theorem LastOk.at {n : Nat} {rs : List Rope} {ps : List (Option Int)} (h : LastOk n rs ps) {u f : Nat} {l : Int} (hu : u < n) (hp : prOf rs ps u = some (f, l)) : ∃ (j : Nat) (r : Rope), (ps.map ovV)[u]? = some (.int j) ∧ rs[j]? = some r ∧ r.f.toNat = f ∧ r.l = l ∧ r.r = u := by
  unfold prOf at hp
  cases e : ps.getD u none with
  | none =>
    rw [e] at hp
    cases hp
  | some x =>
    obtain ⟨j, rfl, r, hr, er⟩ := h.2 u x e
    rw [e] at hp
    have hp : (rs[(j : Int).toNat]?).map (fun r => (r.f.toNat, r.l)) = some (f, l) := hp
    rw [Int.toNat_natCast, hr] at hp
    cases hp
    refine ⟨j, r, ?_, hr, rfl, rfl, er⟩
    rw [opt_at (by rw [h.1]; exact hu), e]
    rfl
/-- ints that stand for ropes, in a list -/
abbrev ixV (cs : List Nat) : List V := cs.map fun c => V.int (c : Nat)
end
end Hx

set_option Elab.async false
set_option linter.all false
set_option maxRecDepth 100000
set_option maxHeartbeats 4000000
namespace Hx
open PySem PySem.Spec PyProof.Rows L2
local macro_rules | `(tactic| walk_at "rd") => `(tactic| (try simp only [q_var, q_c, q_op, q_un, q_rI, q_rI0, q_rU, q_rEq, q_rNe, q_test, q_tB, q_and, q_or, q_not, q_andV, q_orV, q_notV, q_if, q_isN, q_notN, q_chain, q_next, q_seq, q_break, q_cont, q_drop, q_ret, q_retN, q_ifS, q_never, q_gN, q_gNil, q_gCons, q_gTup, q_gSub, q_asg, q_par, q_aug, q_nil, q_cons, q_tup, q_lst, q_call, q_cb, q_noPart, q_part, q_sl, q_bm0, q_bm, q_yes, q_for, q_lc, q_iList, q_iTup, q_iRng1, q_iEnumT, q_iEnum, q_iRng2, q_iZipA, q_iZipM, q_ipI, q_ckw, q_len, q_listOf, q_tupleOf, L2.start, cx_K, wipe, List.map_cons, List.map_nil, List.length_cons, List.length_nil, List.cons_append, List.nil_append, List.append_nil, List.replicate, List.getElem?_cons_zero, List.getElem?_cons_succ, List.set_cons_zero, List.set_cons_succ, Option.some.injEq, List.cons.injEq, exists_eq_left', exists_eq_left, exists_and_left, V.int.injEq, V.bl.injEq, V.ref.injEq, if_true, if_false, Bool.not_true, Bool.not_false, true_and, and_true, Bool.false_eq_true, ite_true, ite_false, Nat.reduceAdd, Nat.reduceSub, reduceCtorEq, decide_false, decide_true, Int.toNat_natCast, false_and, exists_false, or_false, false_or]))
section
variable {P : Program} {w : World} {K : PySem.W.Frag} {mg : Str → Option Value} {base : Heap}
theorem FleetV.at {H : Hp} {v : V} {n : Int} {rs : List Rope} (h : FleetV K H v n rs) : ∃ a b, v = .ref a ∧ SqT K H a [.int n, .ref b] ∧ RopesAt K H b rs := by
  obtain ⟨a, b, xs, rfl, ha, hb, hl, hx⟩ := h
  exact ⟨a, b, rfl, ha, xs, hb, hl, hx⟩
theorem inR_of {n : Nat} {rs : List Rope} (ok : ∀ r ∈ rs, RopeOk n r) : InR n rs := fun r hr => by
  obtain ⟨h1, h2, h3, h4, _⟩ := ok r hr
  omega
/-- the lists of the search stand at l and p -/
structure BAt (H : Hp) (l p : Addr) (s : BS) : Prop where
  ls : H l = some (.lst (s.ls.map V.int))
  ps : H p = some (.lst (s.ps.map ovV))
theorem ints_atB {xs : List Int} {i : Nat} (h : i < xs.length) : (xs.map V.int)[i]? = some (.int (gI xs i)) := by
  unfold gI
  rw [List.getElem?_map, List.getD_eq_getElem?_getD, List.getElem?_eq_getElem h]
  rfl
theorem set_map {α β : Type} (f : α → β) (xs : List α) (i : Nat) (x : α) : (xs.map f).set i (f x) = (xs.set i x).map f := by
  rw [List.map_set]
theorem rep_map {α β : Type} (f : α → β) (n : Nat) (x : α) : List.replicate n (f x) = (List.replicate n x).map f := by
  rw [List.map_replicate]
theorem bRun_len (rs : List Rope) (s : BS) : ∀ i, (bRun rs s i).ls.length = s.ls.length ∧ (bRun rs s i).ps.length = s.ps.length
  | 0 => ⟨rfl, rfl⟩
  | i + 1 => by
    have ih := bRun_len rs s i
    cases h : rs[i]? with
    | none =>
      have e : bRun rs s (i + 1) = bRun rs s i := by
        show (match rs[i]? with | some r => bStep (bRun rs s i) i r | none => bRun rs s i) = _
        rw [h]
      rw [e]
      exact ih
    | some r =>
      rw [bRun_succ h]
      unfold bStep
      split
      · exact ⟨by rw [List.length_set]; exact ih.1, by rw [List.length_set]; exact ih.2⟩
      · exact ih
theorem bAll_len (n : Nat) (rs : List Rope) : ∀ k, (bAll n rs k).ls.length = n ∧ (bAll n rs k).ps.length = n
  | 0 => ⟨List.length_replicate, List.length_replicate⟩
  | k + 1 => by
    have ih := bAll_len n rs k
    have h := bRun_len rs { bAll n rs k with ch := none } rs.length
    exact ⟨h.1.trans ih.1, h.2.trans ih.2⟩
end
end Hx

set_option Elab.async false
set_option linter.all false
set_option maxRecDepth 100000
set_option maxHeartbeats 4000000
namespace Hx
open PySem PySem.Spec PyProof.Rows L2
local macro_rules | `(tactic| walk_at "rd") => `(tactic| (try simp only [q_var, q_c, q_op, q_un, q_rI, q_rI0, q_rU, q_rEq, q_rNe, q_test, q_tB, q_and, q_or, q_not, q_andV, q_orV, q_notV, q_if, q_isN, q_notN, q_chain, q_next, q_seq, q_break, q_cont, q_drop, q_ret, q_retN, q_ifS, q_never, q_gN, q_gNil, q_gCons, q_gTup, q_gSub, q_asg, q_par, q_aug, q_nil, q_cons, q_tup, q_lst, q_call, q_cb, q_noPart, q_part, q_sl, q_bm0, q_bm, q_yes, q_for, q_lc, q_iList, q_iTup, q_iRng1, q_iEnumT, q_iEnum, q_iRng2, q_iZipA, q_iZipM, q_ipI, q_ckw, q_len, q_listOf, q_tupleOf, L2.start, cx_K, wipe, List.map_cons, List.map_nil, List.length_cons, List.length_nil, List.cons_append, List.nil_append, List.append_nil, List.replicate, List.getElem?_cons_zero, List.getElem?_cons_succ, List.set_cons_zero, List.set_cons_succ, Option.some.injEq, List.cons.injEq, exists_eq_left', exists_eq_left, exists_and_left, V.int.injEq, V.bl.injEq, V.ref.injEq, if_true, if_false, Bool.not_true, Bool.not_false, true_and, and_true, Bool.false_eq_true, ite_true, ite_false, Nat.reduceAdd, Nat.reduceSub, reduceCtorEq, decide_false, decide_true, Int.toNat_natCast, false_and, exists_false, or_false, false_or]))
section
variable {P : Program} {w : World} {K : PySem.W.Frag} {mg : Str → Option Value} {base : Heap}
theorem RopesAt.len {H : Hp} {b : Addr} {rs : List Rope} (h : RopesAt K H b rs) {Q : VK} (q : Q (.int rs.length) H) : rLen K [.ref b] H Q := by
  obtain ⟨xs, h1, h2, h3⟩ := h
  exact ⟨b, xs, rfl, .inr h1, by rw [h2]; exact q⟩
theorem Links.det {rs : List Rope} {e e' t : Int} {cs : List Nat} (h : Links rs e cs e' t) : ∀ i, i ≤ cs.length → ∃ e1 t1, Links rs e (cs.take i) e1 t1 := by
  induction h with
  | nil e => exact fun i _ => ⟨e, 0, by rw [List.take_nil]; exact .nil e⟩
  | cons h hf _ ih =>
    intro i hi
    cases i with
    | zero => exact ⟨_, 0, .nil _⟩
    | succ i =>
      obtain ⟨e1, t1, k⟩ := ih i (by simpa using hi)
      exact ⟨e1, _, .cons h hf k⟩
theorem Links.same {rs : List Rope} {e e1 t1 : Int} {cs : List Nat} (h : Links rs e cs e1 t1) : ∀ {e2 t2 : Int}, Links rs e cs e2 t2 → e2 = e1 ∧ t2 = t1 := by
  induction h with
  | nil e =>
    intro e2 t2 k
    cases k
    exact ⟨rfl, rfl⟩
  | cons h hf _ ih =>
    intro e2 t2 k
    cases k with
    | cons h' hf' k' =>
      rw [h] at h'
      cases h'
      obtain ⟨a, b⟩ := ih k'
      exact ⟨a, by rw [b]⟩
theorem Links.step {rs : List Rope} {e e' t : Int} {cs : List Nat} (h : Links rs e cs e' t) : ∀ {i c : Nat}, cs[i]? = some c → ∀ {e1 t1 : Int}, Links rs e (cs.take i) e1 t1 → ∃ r, rs[c]? = some r ∧ r.f = e1 ∧ Links rs e (cs.take (i + 1)) r.r (t1 + r.l) := by
  induction h with
  | nil e => exact fun h => by cases h
  | @cons e e' t c0 cs r h hf k ih =>
    intro i c hc e1 t1 k1
    cases i with
    | zero =>
      cases hc
      cases k1
      refine ⟨r, h, hf, ?_⟩
      have := Links.cons h hf (.nil r.r)
      rw [Int.add_comm] at this
      exact this
    | succ i =>
      cases k1 with
      | cons h' hf' k' =>
        rw [h] at h'
        cases h'
        obtain ⟨r', g1, g2, g3⟩ := ih (by simpa using hc) k'
        refine ⟨r', g1, g2, ?_⟩
        rw [Int.add_assoc]
        exact .cons h hf g3
def s_check_rope : Stmt := topS 19
abbrev n_check_rope : List Str := ["fleet", "rope"]
abbrev p_check_rope : List Str := ["fleet", "rope"]
theorem sc_check_rope : FnScope n_check_rope p_check_rope (defScope s_check_rope) := ⟨rfl, rfl, rfl, by decide +kernel, rfl, by decide +kernel, by decide +kernel⟩
def sp_check_rope (K : PySem.W.Frag) : Sp := fun vs H Q _ => ∃ (v u : V) (n : Nat) (rs : List Rope) (r : Rope), vs = [v, u] ∧ FleetV K H v n rs ∧ RopeV K H u r ∧ RopeOk n r ∧ Q .non H
theorem df_check_rope (T : Here K mg "check_rope" s_check_rope) (D_is_rope : Df P w K mg base CX0 "is_rope" 3 p_is_rope (sp_is_rope K)) : Df P w K mg base CX0 "check_rope" 4 p_check_rope (sp_check_rope K) := by
  refine T.df sc_check_rope (fun _ _ _ _ _ _ us hl => match us, hl with | [_, _], _ => rfl) (fun vs H Q E h => by obtain ⟨_, _, _, _, _, rfl, _⟩ := h; rfl) (fun f cdv A outer s H vs Q E hr h => ?_)
  obtain ⟨v, u, n, rs, r, rfl, hv, hu, hok, q⟩ := h
  refine ⟨_, pss_one (ps_if (pt_not (pt_val (D_is_rope.call (hr.mono (by decide)) (by rfl) (pa_cons (pv 1) (pa_cons (pe_ix (ixT K rfl) (pv 0) (pe_int) (fun _ _ => rfl)) pa_nil))))) (pss_one (ps_never)) (pss_nil)), ?_⟩
  obtain ⟨a, b, rfl, ha, hb⟩ := hv.at
  walk_at "rd"
  refine ⟨a, _, 0, _, rfl, rfl, ha, atI_nat (j := 0) rfl, ?_⟩
  walk_at "rd"
  refine ⟨u, r, n, rfl, hu, hok, ?_⟩
  walk_at "rd"
  exact q
def impD (d : Tab) (r : Rope) : Bool := match d r.f.toNat r.r.toNat with
  | some x => decide (x ≤ r.l)
  | none => false
def s_is_implied : Stmt := topS 42
abbrev n_is_implied : List Str := ["table", "rope", "front", "rear", "length"]
abbrev p_is_implied : List Str := ["table", "rope"]
theorem sc_is_implied : FnScope n_is_implied p_is_implied (defScope s_is_implied) := ⟨rfl, rfl, rfl, by decide +kernel, rfl, by decide +kernel, by decide +kernel⟩
def sp_is_implied (K : PySem.W.Frag) : Sp := fun vs H Q _ => ∃ (t : Addr) (as : List Addr) (n : Nat) (d : Tab) (u : V) (r : Rope), vs = [.ref t, u] ∧ TabAt H t as n d ∧ RopeV K H u r ∧ RopeOk n r ∧ Q (.bl (impD d r)) H
theorem df_is_implied (T : Here K mg "is_implied" s_is_implied) : Df P w K mg base CX0 "is_implied" 1 p_is_implied (sp_is_implied K) := by
  refine T.df sc_is_implied (fun _ _ _ _ _ _ us hl => match us, hl with | [_, _], _ => rfl) (fun vs H Q E h => by obtain ⟨_, _, _, _, _, _, rfl, _⟩ := h; rfl) (fun f cdv A outer s H vs Q E hr h => ?_)
  obtain ⟨t, as, n, d, u, r, rfl, ht, ⟨c, rfl, hc⟩, ⟨h1, h2, h3, h4, _⟩, q⟩ := h
  refine ⟨_, pss_cons (ps_asg (pv 1) (pgTup K rfl (n := 3) rfl (pgs_cons (pg_name (i := 2) sc_is_implied.nd rfl (by first | exact Or.inl rfl | exact Or.inr rfl)) (pgs_cons (pg_name (i := 3) sc_is_implied.nd rfl (by first | exact Or.inl rfl | exact Or.inr rfl)) (pgs_cons (pg_name (i := 4) sc_is_implied.nd rfl (by first | exact Or.inl rfl | exact Or.inr rfl)) pgs_nil)))))
      (pss_one (ps_ret (pe_and (pe_cmpR op_notN (pe_ix (ixL K rfl) (pe_ix (ixL K rfl) (pv 0) (pv 2) (fun _ _ => rfl)) (pv 3) (fun _ _ => rfl)) (pe_non) (nomark _)) (pe_one (pe_cmpR op_le (pe_ix (ixL K rfl) (pe_ix (ixL K rfl) (pv 0) (pv 2) (fun _ _ => rfl)) (pv 3) (fun _ _ => rfl)) (pv 4) (nomark _)))))), ?_⟩
  obtain ⟨fn, hfn⟩ := nat_at h1
  obtain ⟨rn, hrn⟩ := nat_at h3
  rw [hfn, hrn] at hc
  unfold impD at q
  rw [hfn, hrn, Int.toNat_natCast, Int.toNat_natCast] at q
  obtain ⟨x, hx, hxm, hrow⟩ := ht.get (i := fn) (by omega)
  walk_at "rd"
  refine ⟨_, hc, rfl, ?_⟩
  walk_at "rd"
  refine ⟨t, _, _, _, rfl, rfl, .of ht.top, atI_nat hxm, x, _, _, _, rfl, rfl, .of hrow, atI_nat (rowV_at d fn (by omega)), ?_⟩
  cases hd : d fn rn with
  | none =>
    rw [hd] at q
    simp only [ovV]
    walk_at "rd"
    exact q
  | some y =>
    rw [hd] at q
    simp only [ovV]
    walk_at "rd"
    refine ⟨t, _, _, _, rfl, rfl, .of ht.top, atI_nat hxm, x, _, _, _, rfl, rfl, .of hrow, atI_nat (rowV_at d fn (by omega)), ?_⟩
    rw [hd]
    simp only [ovV]
    walk_at "rd"
    exact q
def s_implied : Stmt := topS 37
abbrev n_implied : List Str := ["fleet", "rope", "table"]
abbrev p_implied : List Str := ["fleet", "rope"]
theorem sc_implied : FnScope n_implied p_implied (defScope s_implied) := ⟨rfl, rfl, rfl, by decide +kernel, rfl, by decide +kernel, by decide +kernel⟩
def sp_implied (K : PySem.W.Frag) : Sp := fun vs H Q _ => ∃ (v u : V) (n : Nat) (rs : List Rope) (r : Rope), vs = [v, u] ∧ FleetV K H v n rs ∧ FleetOk n rs ∧ RopeV K H u r ∧ RopeOk n r ∧ Diag n (chainTab n rs) ∧ ∀ H', Same H H' → Q (.bl (impD (chainTab n rs) r)) H'
theorem df_implied (T : Here K mg "implied" s_implied) (D_check_fleet : Df P w K mg base CX0 "check_fleet" 4 p_check_fleet (sp_check_fleet K)) (D_check_rope : Df P w K mg base CX0 "check_rope" 4 p_check_rope (sp_check_rope K))
    (D_chain_table : Df P w K mg base CX0 "chain_table" 2 p_chain_table (sp_chain_table K)) (D_check_table : Df P w K mg base CX0 "check_table" 1 p_check_table (sp_check_table K)) (D_is_implied : Df P w K mg base CX0 "is_implied" 1 p_is_implied (sp_is_implied K)) :
    Df P w K mg base CX0 "implied" 5 p_implied (sp_implied K) := by
  refine T.df sc_implied (fun _ _ _ _ _ _ us hl => match us, hl with | [_, _], _ => rfl) (fun vs H Q E h => by obtain ⟨_, _, _, _, _, rfl, _⟩ := h; rfl) (fun f cdv A outer s H vs Q E hr h => ?_)
  obtain ⟨v, u, n, rs, r, rfl, hv, hok, hu, hr1, hd, q⟩ := h
  refine ⟨_, pss_cons (ps_expr (D_check_fleet.call (hr.mono (by decide)) (by rfl) (pa_cons (pv 0) pa_nil)))
      (pss_cons (ps_expr (D_check_rope.call (hr.mono (by decide)) (by rfl) (pa_cons (pv 0) (pa_cons (pv 1) pa_nil))))
      (pss_cons (ps_set (i := 2) sc_implied.nd rfl (by first | exact Or.inl rfl | exact Or.inr rfl) (D_chain_table.call (hr.mono (by decide)) (by rfl) (pa_cons (pv 0) pa_nil)))
      (pss_cons (ps_expr (D_check_table.call (hr.mono (by decide)) (by rfl) (pa_cons (pv 2) pa_nil)))
      (pss_one (ps_ret (D_is_implied.call (hr.mono (by decide)) (by rfl) (pa_cons (pv 2) (pa_cons (pv 1) pa_nil)))))))), ?_⟩
  walk_at "rd"
  refine ⟨v, n, rs, rfl, hv, hok, fun H1 s1 => ?_⟩
  walk_at "rd"
  refine ⟨v, u, n, rs, r, rfl, hv.mono s1, hu.mono s1, hr1, ?_⟩
  walk_at "rd"
  refine ⟨_, n, rs, rfl, hv.mono s1, hok, fun H2 t as tn => ?_⟩
  walk_at "rd"
  refine ⟨t, as, n, _, rfl, tn.tab, by have := hok.2.1; omega, hd, ?_⟩
  walk_at "rd"
  refine ⟨t, as, n, _, u, r, rfl, tn.tab, (hu.mono s1).mono tn.same, hr1, ?_⟩
  exact q _ (s1.trans tn.same)
end
end Hx

set_option Elab.async false
set_option linter.all false
set_option maxRecDepth 100000
set_option maxHeartbeats 4000000
namespace Hx
open PySem PySem.Spec PyProof.Rows L2
local macro_rules | `(tactic| walk_at "rd") => `(tactic| (try simp only [q_var, q_c, q_op, q_un, q_rI, q_rI0, q_rU, q_rEq, q_rNe, q_test, q_tB, q_and, q_or, q_not, q_andV, q_orV, q_notV, q_if, q_isN, q_notN, q_chain, q_next, q_seq, q_break, q_cont, q_drop, q_ret, q_retN, q_ifS, q_never, q_gN, q_gNil, q_gCons, q_gTup, q_gSub, q_asg, q_par, q_aug, q_nil, q_cons, q_tup, q_lst, q_call, q_cb, q_noPart, q_part, q_sl, q_bm0, q_bm, q_yes, q_for, q_lc, q_iList, q_iTup, q_iRng1, q_iEnumT, q_iEnum, q_iRng2, q_iZipA, q_iZipM, q_ipI, q_ckw, q_len, q_listOf, q_tupleOf, L2.start, cx_K, wipe, List.map_cons, List.map_nil, List.length_cons, List.length_nil, List.cons_append, List.nil_append, List.append_nil, List.replicate, List.getElem?_cons_zero, List.getElem?_cons_succ, List.set_cons_zero, List.set_cons_succ, Option.some.injEq, List.cons.injEq, exists_eq_left', exists_eq_left, exists_and_left, V.int.injEq, V.bl.injEq, V.ref.injEq, if_true, if_false, Bool.not_true, Bool.not_false, true_and, and_true, Bool.false_eq_true, ite_true, ite_false, Nat.reduceAdd, Nat.reduceSub, reduceCtorEq, decide_false, decide_true, Int.toNat_natCast, false_and, exists_false, or_false, false_or]))
section
variable {P : Program} {w : World} {K : PySem.W.Frag} {mg : Str → Option Value} {base : Heap}
def HaulV (K : PySem.W.Frag) (H : Hp) (v : V) (h : Nat × Int) : Prop := ∃ c, v = .ref c ∧ SqT K H c [.int h.1, .int h.2]
theorem HaulV.mono {H H' : Hp} {v : V} {h : Nat × Int} (k : HaulV K H v h) (e : Same H H') : HaulV K H' v h := by
  obtain ⟨c, rfl, k⟩ := k
  exact ⟨c, rfl, sqt_same e k⟩
def s_is_haul : Stmt := topS 34
abbrev n_is_haul : List Str := ["value", "positions", "barge", "position"]
abbrev p_is_haul : List Str := ["value", "positions"]
theorem sc_is_haul : FnScope n_is_haul p_is_haul (defScope s_is_haul) := ⟨rfl, rfl, rfl, by decide +kernel, rfl, by decide +kernel, by decide +kernel⟩
def sp_is_haul (K : PySem.W.Frag) : Sp := fun vs H Q _ => ∃ (v u : V) (xs : List Int) (h : Nat × Int), vs = [v, u] ∧ HaulV K H v h ∧ IntsT K H u xs ∧ h.1 < xs.length ∧ xs.getD h.1 0 ≤ h.2 ∧ h.2 ≤ 9999 ∧ Q (.bl true) H
theorem df_is_haul (T : Here K mg "is_haul" s_is_haul) (B : Blt mg) (C_FARTHEST : ∃ u, mg "FARTHEST" = some (.int 9999 u)) (D_is_number : Df P w K mg base CX0 "is_number" 1 p_is_number (sp_is_number K))
    (D_is_barge : Df P w K mg base CX0 "is_barge" 2 p_is_barge (sp_is_barge K)) : Df P w K mg base CX0 "is_haul" 3 p_is_haul (sp_is_haul K) := by
  refine T.df sc_is_haul (fun _ _ _ _ _ _ us hl => match us, hl with | [_, _], _ => rfl) (fun vs H Q E h => by obtain ⟨_, _, _, _, rfl, _⟩ := h; rfl) (fun f cdv A outer s H vs Q E hr h => ?_)
  obtain ⟨v, u, xs, ⟨b, p⟩, rfl, ⟨c, rfl, hc⟩, ⟨a, rfl, ha⟩, h1, h2, h3, q⟩ := h
  refine ⟨_, pss_cons (ps_if (PW.pt (pw_or (pt_not (pt_val (pe_callB (isi K rfl) (by rfl) B.isinstance (by decide +kernel) (pa_cons (pv 0) (pa_cons ((pe_bltn (v := .ty "tuple") (by rfl) B.tuple (by decide +kernel) rfl)) pa_nil))))) (pw_or1 (pt_cmpR op_ne (pe_callB (lenQ K rfl) (by rfl) B.len (by decide +kernel) (pa_cons (pv 0) pa_nil)) (pe_int) (nomark _))))) (pss_one (ps_ret (pe_bl))) (pss_nil))
      (pss_cons (ps_asg (pv 0) (pgTup K rfl (n := 2) rfl (pgs_cons (pg_name (i := 2) sc_is_haul.nd rfl (by first | exact Or.inl rfl | exact Or.inr rfl)) (pgs_cons (pg_name (i := 3) sc_is_haul.nd rfl (by first | exact Or.inl rfl | exact Or.inr rfl)) pgs_nil))))
      (pss_one (ps_ret (pe_and (D_is_barge.call (hr.mono (by decide)) (by rfl) (pa_cons (pv 2) (pa_cons (pe_callB (lenQ K rfl) (by rfl) B.len (by decide +kernel) (pa_cons (pv 1) pa_nil)) pa_nil))) (pe_one (D_is_number.call (hr.mono (by decide)) (by rfl) (pa_cons (pv 3) (pa_cons (pe_ix (ixT K rfl) (pv 1) (pv 2) (fun _ _ => rfl)) (pa_cons (pe_gi (by rfl) C_FARTHEST) pa_nil))))))))), ?_⟩
  simp only at h1 h2 h3
  walk_at "rd"
  refine isi_yes (tyx_tup hc) (by decide +kernel) ?_
  walk_at "rd"
  refine ⟨_, .inr hc, rfl, iteNS rfl ⟨_, hc, rfl, ?_⟩⟩
  walk_at "rd"
  refine ⟨_, .inr ha, ?_⟩
  rw [List.length_map]
  refine ⟨b, xs.length, rfl, ?_⟩
  rw [decide_eq_true (show 0 ≤ (b : Int) ∧ (b : Int) < (xs.length : Int) by omega)]
  walk_at "rd"
  refine ⟨a, _, b, _, rfl, rfl, ha, atI_nat (at_ints h1), ?_⟩
  refine ⟨p, _, 9999, rfl, ?_⟩
  rw [decide_eq_true (show xs.getD b 0 ≤ p ∧ p ≤ 9999 from ⟨h2, h3⟩)]
  exact q
/-! a run of hauls -/
def runD (d : Tab) (xs : List Int) : List (Nat × Int) → List Int
  | [] => xs
  | h :: hs => runD d (moveD d xs h.1 h.2) hs
def wayD (d : Tab) (xs : List Int) : List (Nat × Int) → Int
  | [] => 0
  | h :: hs => (h.2 - xs.getD h.1 0) + wayD d (moveD d xs h.1 h.2) hs
def HaulsOk (d : Tab) (xs : List Int) : List (Nat × Int) → Prop
  | [] => True
  | h :: hs => h.1 < xs.length ∧ xs.getD h.1 0 ≤ h.2 ∧ h.2 ≤ 9999 ∧ HaulsOk d (moveD d xs h.1 h.2) hs
theorem runD_len (d : Tab) : ∀ (hs : List (Nat × Int)) (xs : List Int), (runD d xs hs).length = xs.length
  | [], xs => rfl
  | h :: hs, xs => by
    show (runD d (moveD d xs h.1 h.2) hs).length = _
    rw [runD_len d hs, moveD_len]
theorem run_snoc (d : Tab) : ∀ (hs : List (Nat × Int)) (xs : List Int) (h : Nat × Int), runD d xs (hs ++ [h]) = moveD d (runD d xs hs) h.1 h.2
  | [], _, _ => rfl
  | k :: hs, xs, h => run_snoc d hs (moveD d xs k.1 k.2) h
theorem way_snoc (d : Tab) : ∀ (hs : List (Nat × Int)) (xs : List Int) (h : Nat × Int), wayD d xs (hs ++ [h]) = wayD d xs hs + (h.2 - (runD d xs hs).getD h.1 0)
  | [], xs, h => by
    show (h.2 - xs.getD h.1 0) + 0 = 0 + (h.2 - xs.getD h.1 0)
    omega
  | k :: hs, xs, h => by
    have e := way_snoc d hs (moveD d xs k.1 k.2) h
    show (k.2 - xs.getD k.1 0) + wayD d (moveD d xs k.1 k.2) (hs ++ [h]) = (k.2 - xs.getD k.1 0) + wayD d (moveD d xs k.1 k.2) hs + (h.2 - (runD d (moveD d xs k.1 k.2) hs).getD h.1 0)
    rw [e]
    omega
theorem ok_snoc (d : Tab) : ∀ (hs : List (Nat × Int)) (xs : List Int) (h : Nat × Int), HaulsOk d xs (hs ++ [h]) ↔ HaulsOk d xs hs ∧ h.1 < (runD d xs hs).length ∧ (runD d xs hs).getD h.1 0 ≤ h.2 ∧ h.2 ≤ 9999
  | [], xs, h => by
    show (h.1 < xs.length ∧ xs.getD h.1 0 ≤ h.2 ∧ h.2 ≤ 9999 ∧ True) ↔ True ∧ h.1 < xs.length ∧ xs.getD h.1 0 ≤ h.2 ∧ h.2 ≤ 9999
    simp only [and_true, true_and]
  | k :: hs, xs, h => by
    have e := ok_snoc d hs (moveD d xs k.1 k.2) h
    show (k.1 < xs.length ∧ xs.getD k.1 0 ≤ k.2 ∧ k.2 ≤ 9999 ∧ HaulsOk d (moveD d xs k.1 k.2) (hs ++ [h])) ↔ (k.1 < xs.length ∧ xs.getD k.1 0 ≤ k.2 ∧ k.2 ≤ 9999 ∧ HaulsOk d (moveD d xs k.1 k.2) hs) ∧ h.1 < (runD d (moveD d xs k.1 k.2) hs).length ∧ (runD d (moveD d xs k.1 k.2) hs).getD h.1 0 ≤ h.2 ∧ h.2 ≤ 9999
    rw [e]
    simp only [and_assoc]
theorem ok_left (d : Tab) : ∀ (a b : List (Nat × Int)) (xs : List Int), HaulsOk d xs (a ++ b) → HaulsOk d xs a
  | [], _, _, _ => trivial
  | h :: a, b, xs, k => ⟨k.1, k.2.1, k.2.2.1, ok_left d a b _ k.2.2.2⟩
/-- the list at l holds hauls -/
def HaulsL (K : PySem.W.Frag) (H : Hp) (l : Addr) (hs : List (Nat × Int)) : Prop := ∃ xs, SqL K H l xs ∧ xs.length = hs.length ∧ ∀ (i : Nat) x, xs[i]? = some x → ∃ h, hs[i]? = some h ∧ HaulV K H x h
theorem HaulsL.mono {H H' : Hp} {l : Addr} {hs : List (Nat × Int)} (k : HaulsL K H l hs) (e : Same H H') : HaulsL K H' l hs := by
  obtain ⟨xs, h1, h2, h3⟩ := k
  refine ⟨xs, e.seq h1, h2, fun i x hx => ?_⟩
  obtain ⟨h, g1, g2⟩ := h3 i x hx
  exact ⟨h, g1, g2.mono e⟩
structure WayOk (n : Nat) (rs : List Rope) (xs : List Int) : Prop where
  fleet : FleetOk n rs
  len : xs.length = n
  range : InRange xs
  valid : Valid xs rs
def s_follow_hauls : Stmt := topS 33
abbrev n_follow_hauls : List Str := ["fleet", "positions", "hauls", "table", "current", "total", "index", "step", "barge", "position"]
abbrev p_follow_hauls : List Str := ["fleet", "positions", "hauls"]
theorem sc_follow_hauls : FnScope n_follow_hauls p_follow_hauls (defScope s_follow_hauls) := ⟨rfl, rfl, rfl, by decide +kernel, rfl, by decide +kernel, by decide +kernel⟩
def sp_follow_hauls (K : PySem.W.Frag) : Sp := fun vs H Q _ => ∃ (v u : V) (l : Addr) (n : Nat) (rs : List Rope) (xs : List Int) (hs : List (Nat × Int)), vs = [v, u, .ref l] ∧ FleetV K H v n rs ∧ IntsT K H u xs ∧ WayOk n rs xs ∧ HaulsL K H l hs ∧ hs.length ≤ 1000 ∧
  HaulsOk (chainTab n rs) xs hs ∧ ∀ H' p c, Same H H' → H' p = some (.tup [.ref c, .int (wayD (chainTab n rs) xs hs)]) → IntsT K H' (.ref c) (runD (chainTab n rs) xs hs) → Q (.ref p) H'
theorem df_follow_hauls (T : Here K mg "follow_hauls" s_follow_hauls) (B : Blt mg) (D_check_fleet : Df P w K mg base CX0 "check_fleet" 4 p_check_fleet (sp_check_fleet K)) (D_check_valid : Df P w K mg base CX0 "check_valid" 4 p_check_valid (sp_check_valid K))
    (D_chain_table : Df P w K mg base CX0 "chain_table" 2 p_chain_table (sp_chain_table K)) (D_is_haul : Df P w K mg base CX0 "is_haul" 3 p_is_haul (sp_is_haul K)) (D_move_barge : Df P w K mg base CX0 "move_barge" 1 p_move_barge (sp_move_barge K)) :
    Df P w K mg base CX0 "follow_hauls" 5 p_follow_hauls (sp_follow_hauls K) := by
  refine T.df sc_follow_hauls (fun _ _ _ _ _ _ us hl => match us, hl with | [_, _, _], _ => rfl) (fun vs H Q E h => by obtain ⟨_, _, _, _, _, _, _, rfl, _⟩ := h; rfl) (fun f cdv A outer s H vs Q E hr h => ?_)
  obtain ⟨v, u, l, n, rs, xs, hs, rfl, hv, hu, hw, hl, hlen, hok, q⟩ := h
  refine ⟨_, pss_cons (ps_expr (D_check_fleet.call (hr.mono (by decide)) (by rfl) (pa_cons (pv 0) pa_nil)))
      (pss_cons (ps_expr (D_check_valid.call (hr.mono (by decide)) (by rfl) (pa_cons (pv 0) (pa_cons (pv 1) pa_nil))))
      (pss_cons (ps_if (pt_not (pt_val (pe_callB (isi K rfl) (by rfl) B.isinstance (by decide +kernel) (pa_cons (pv 2) (pa_cons ((pe_bltn (v := .ty "list") (by rfl) B.list (by decide +kernel) rfl)) pa_nil))))) (pss_one (ps_never)) (pss_nil))
      (pss_cons (ps_set (i := 3) sc_follow_hauls.nd rfl (by first | exact Or.inl rfl | exact Or.inr rfl) (D_chain_table.call (hr.mono (by decide)) (by rfl) (pa_cons (pv 0) pa_nil)))
      (pss_cons (ps_set (i := 4) sc_follow_hauls.nd rfl (by first | exact Or.inl rfl | exact Or.inr rfl) (pe_callTy (tupleOf K rfl) (by rfl) B.tuple (by decide +kernel) (pa_cons (pv 1) pa_nil)))
      (pss_cons (ps_set (i := 5) sc_follow_hauls.nd rfl (by first | exact Or.inl rfl | exact Or.inr rfl) (pe_int))
      (pss_cons (ps_for PassesOwn.never rfl (pi_enum (by rfl) B.enumerate (pa_cons (pv 2) pa_nil)) (pgTup K rfl (n := 2) rfl (pgs_cons (pg_name (i := 6) sc_follow_hauls.nd rfl (by first | exact Or.inl rfl | exact Or.inr rfl)) (pgs_cons (pg_name (i := 7) sc_follow_hauls.nd rfl (by first | exact Or.inl rfl | exact Or.inr rfl)) pgs_nil))) (pss_cons (ps_if (pt_not (pt_val (D_is_haul.call (hr.mono (by decide)) (by rfl) (pa_cons (pv 7) (pa_cons (pv 4) pa_nil))))) (pss_one (ps_never)) (pss_nil))
      (pss_cons (ps_asg (pv 7) (pgTup K rfl (n := 2) rfl (pgs_cons (pg_name (i := 8) sc_follow_hauls.nd rfl (by first | exact Or.inl rfl | exact Or.inr rfl)) (pgs_cons (pg_name (i := 9) sc_follow_hauls.nd rfl (by first | exact Or.inl rfl | exact Or.inr rfl)) pgs_nil))))
      (pss_cons (ps_aug (i := 5) sc_follow_hauls.nd rfl (by first | exact Or.inl rfl | exact Or.inr rfl) (pe_op op_sub (pv 9) (pe_ix (ixT K rfl) (pv 4) (pv 8) (fun _ _ => rfl))) ip_add)
      (pss_one (ps_set (i := 4) sc_follow_hauls.nd rfl (by first | exact Or.inl rfl | exact Or.inr rfl) (D_move_barge.call (hr.mono (by decide)) (by rfl) (pa_cons (pv 3) (pa_cons (pv 4) (pa_cons (pv 8) (pa_cons (pv 9) pa_nil)))))))))))
      (pss_one (ps_ret (pe_tup (pa_cons (pv 4) (pa_cons (pv 5) pa_nil))))))))))), ?_⟩
  walk_at "rd"
  refine ⟨v, n, rs, rfl, hv, hw.fleet, fun H1 s1 => ?_⟩
  walk_at "rd"
  refine ⟨v, u, n, rs, xs, rfl, hv.mono s1, hu.mono s1, by rw [hw.len], hw.range, hw.fleet.2.2.2, hw.valid, fun H2 s2 => ?_⟩
  have s2 := s1.trans s2
  obtain ⟨ys, hy1, hy2, hy3⟩ := hl.mono s2
  walk_at "rd"
  refine isi_yes (tyx_lst hy1) (by decide +kernel) ?_
  walk_at "rd"
  refine ⟨v, n, rs, rfl, hv.mono s2, hw.fleet, fun H3 t as tn => ?_⟩
  have s3 := s2.trans tn.same
  obtain ⟨c, rfl, hc⟩ := hu.mono s3
  walk_at "rd"
  refine ⟨_, .inr ⟨hc, ?_⟩⟩
  walk_at "rd"
  refine ⟨_, tn.same.seq hy1, ?_⟩
  refine forEnumL (xs := ys) (fun i σ H' => ∃ c' x6 x7 x8 x9, σ = [some v, some (.ref c), some (.ref l), some (.ref t), some (.ref c'), some (.int (wayD (chainTab n rs) xs (hs.take i))), x6, x7, x8, x9] ∧ Same H3 H' ∧ SqT K H' c' ((runD (chainTab n rs) xs (hs.take i)).map V.int))
    ⟨c, _, _, _, _, rfl, .refl _, hc⟩ (fun i σ H' _ hPv => ?_) (fun i x T σ H' hx' hPv hT => ?_) (fun σ H' hPv => ?_)
  · obtain ⟨_, _, _, _, _, _, e, _⟩ := hPv
    exact (tn.same.trans e).seq hy1
  · obtain ⟨c', x6, x7, x8, x9, rfl, e, hc'⟩ := hPv
    obtain ⟨⟨hb, hp⟩, hh, hV⟩ := hy3 i x hx'
    have etk : hs.take (i + 1) = hs.take i ++ [(hb, hp)] := by
      rw [List.take_add_one, hh]
      rfl
    have hk : HaulsOk (chainTab n rs) xs (hs.take i ++ [(hb, hp)]) := by
      rw [← etk]
      refine ok_left _ _ (hs.drop (i + 1)) xs ?_
      rw [List.take_append_drop]
      exact hok
    obtain ⟨k0, k1, k2, k3⟩ := (ok_snoc _ _ _ _).mp hk
    have k1 : hb < (runD (chainTab n rs) xs (hs.take i)).length := k1
    have k2 : (runD (chainTab n rs) xs (hs.take i)).getD hb 0 ≤ hp := k2
    have k3 : hp ≤ 9999 := k3
    have eT := e.trans (same_upd (o := .tup [V.int i, x]) hT)
    have hcT := sqt_same (same_upd (o := .tup [V.int i, x]) hT) hc'
    obtain ⟨z, rfl, hz⟩ := hV.mono (tn.same.trans eT)
    walk_at "rd"
    refine ⟨_, .of upd_same, rfl, ?_⟩
    walk_at "rd"
    refine ⟨.ref z, .ref c', _, (hb, hp), rfl, ⟨z, rfl, hz⟩, ⟨c', rfl, hcT⟩, k1, k2, k3, ?_⟩
    walk_at "rd"
    refine ⟨_, hz, rfl, ?_⟩
    walk_at "rd"
    refine ⟨c', _, hb, _, rfl, rfl, hcT, atI_nat (at_ints k1), ?_⟩
    walk_at "rd"
    refine ⟨t, as, n, _, _, _, hb, hp, rfl, tn.tab.mono eT, ⟨c', rfl, hcT⟩, by rw [runD_len, hw.len], ?_, by have := hw.fleet.2.1; omega, fun H5 a s5 _ ha => ?_⟩
    · rw [runD_len, hw.len] at k1
      exact k1
    · refine ⟨a, _, _, _, _, ⟨rfl, ?_, rfl, rfl, rfl, rfl⟩, eT.trans s5, ?_⟩
      · rw [etk, way_snoc]
      · rw [etk, run_snoc]
        exact .of ha
  · obtain ⟨c', x6, x7, x8, x9, rfl, e, hc'⟩ := hPv
    rw [List.take_of_length_le (by omega)] at hc'
    rw [List.take_of_length_le (by omega)]
    walk_at "rd"
    refine ⟨(by show 2 ≤ sizeLine; decide), fun p hp => ?_⟩
    have sp := same_upd (o := .tup [V.ref c', V.int (wayD (chainTab n rs) xs hs)]) hp
    exact q _ p c' ((s3.trans e).trans sp) upd_same ⟨c', rfl, sqt_same sp hc'⟩
def s_haul_all : Stmt := topS 32
abbrev n_haul_all : List Str := ["fleet", "positions", "hauls"]
abbrev p_haul_all : List Str := ["fleet", "positions", "hauls"]
theorem sc_haul_all : FnScope n_haul_all p_haul_all (defScope s_haul_all) := ⟨rfl, rfl, rfl, by decide +kernel, rfl, by decide +kernel, by decide +kernel⟩
def sp_haul_all (K : PySem.W.Frag) : Sp := fun vs H Q _ => ∃ (v u : V) (l : Addr) (n : Nat) (rs : List Rope) (xs : List Int) (hs : List (Nat × Int)), vs = [v, u, .ref l] ∧ FleetV K H v n rs ∧ IntsT K H u xs ∧ WayOk n rs xs ∧ HaulsL K H l hs ∧ hs.length ≤ 1000 ∧
  HaulsOk (chainTab n rs) xs hs ∧ ∀ H' r, Same H H' → IntsT K H' r (runD (chainTab n rs) xs hs) → Q r H'
theorem df_haul_all (T : Here K mg "haul_all" s_haul_all) (D_follow_hauls : Df P w K mg base CX0 "follow_hauls" 5 p_follow_hauls (sp_follow_hauls K)) : Df P w K mg base CX0 "haul_all" 6 p_haul_all (sp_haul_all K) := by
  refine T.df sc_haul_all (fun _ _ _ _ _ _ us hl => match us, hl with | [_, _, _], _ => rfl) (fun vs H Q E h => by obtain ⟨_, _, _, _, _, _, _, rfl, _⟩ := h; rfl) (fun f cdv A outer s H vs Q E hr h => ?_)
  obtain ⟨v, u, l, n, rs, xs, hs, rfl, hv, hu, hw, hl, hlen, hok, q⟩ := h
  refine ⟨_, pss_one (ps_ret (pe_ix (ixT K rfl) (D_follow_hauls.call (hr.mono (by decide)) (by rfl) (pa_cons (pv 0) (pa_cons (pv 1) (pa_cons (pv 2) pa_nil)))) (pe_int) (fun _ _ => rfl))), ?_⟩
  walk_at "rd"
  refine ⟨v, u, l, n, rs, xs, hs, rfl, hv, hu, hw, hl, hlen, hok, fun H1 p c s1 hp hc => ?_⟩
  refine ⟨p, _, 0, _, rfl, rfl, .of hp, atI_nat (j := 0) rfl, ?_⟩
  exact q _ _ s1 hc
def s_haul : Stmt := topS 31
abbrev n_haul : List Str := ["fleet", "positions", "barge", "position"]
abbrev p_haul : List Str := ["fleet", "positions", "barge", "position"]
theorem sc_haul : FnScope n_haul p_haul (defScope s_haul) := ⟨rfl, rfl, rfl, by decide +kernel, rfl, by decide +kernel, by decide +kernel⟩
def sp_haul (K : PySem.W.Frag) : Sp := fun vs H Q _ => ∃ (v u : V) (n : Nat) (rs : List Rope) (xs : List Int) (b : Nat) (p : Int), vs = [v, u, .int b, .int p] ∧ FleetV K H v n rs ∧ IntsT K H u xs ∧ WayOk n rs xs ∧ b < n ∧ xs.getD b 0 ≤ p ∧ p ≤ 9999 ∧
  ∀ H' r, Same H H' → IntsT K H' r (moveD (chainTab n rs) xs b p) → Q r H'
theorem df_haul (T : Here K mg "haul" s_haul) (D_haul_all : Df P w K mg base CX0 "haul_all" 6 p_haul_all (sp_haul_all K)) : Df P w K mg base CX0 "haul" 7 p_haul (sp_haul K) := by
  refine T.df sc_haul (fun _ _ _ _ _ _ us hl => match us, hl with | [_, _, _, _], _ => rfl) (fun vs H Q E h => by obtain ⟨_, _, _, _, _, _, _, rfl, _⟩ := h; rfl) (fun f cdv A outer s H vs Q E hr h => ?_)
  obtain ⟨v, u, n, rs, xs, b, p, rfl, hv, hu, hw, hb, h1, h2, q⟩ := h
  refine ⟨_, pss_one (ps_ret (D_haul_all.call (hr.mono (by decide)) (by rfl) (pa_cons (pv 0) (pa_cons (pv 1) (pa_cons (pe_lst (pa_cons (pe_tup (pa_cons (pv 2) (pa_cons (pv 3) pa_nil))) pa_nil)) pa_nil))))), ?_⟩
  walk_at "rd"
  refine ⟨(by show 2 ≤ sizeLine; decide), fun c hc => ?_⟩
  refine ⟨(by show 1 ≤ sizeLine; decide), fun l hl => ?_⟩
  have s1 := same_upd (o := .tup [V.int b, V.int p]) hc
  have s2 := same_upd (o := .lst [V.ref c]) hl
  have hb' : b < xs.length := by rw [hw.len]; exact hb
  refine ⟨v, u, l, n, rs, xs, [(b, p)], rfl, hv.mono (s1.trans s2), hu.mono (s1.trans s2), hw, ⟨_, .of upd_same, rfl, fun i x hx => ?_⟩, (by show 1 ≤ 1000; decide), ⟨hb', h1, h2, trivial⟩, fun H3 r s3 hr3 => ?_⟩
  · cases i with
    | zero =>
      cases hx
      exact ⟨_, rfl, c, rfl, sqt_same s2 (.of upd_same)⟩
    | succ i => cases hx
  · exact q _ _ ((s1.trans s2).trans s3) hr3
end
end Hx

set_option Elab.async false
set_option linter.all false
set_option maxRecDepth 100000
set_option maxHeartbeats 4000000
namespace Hx
open PySem PySem.Spec PyProof.Rows L2
local macro_rules | `(tactic| walk_at "rd") => `(tactic| (try simp only [q_var, q_c, q_op, q_un, q_rI, q_rI0, q_rU, q_rEq, q_rNe, q_test, q_tB, q_and, q_or, q_not, q_andV, q_orV, q_notV, q_if, q_isN, q_notN, q_chain, q_next, q_seq, q_break, q_cont, q_drop, q_ret, q_retN, q_ifS, q_never, q_gN, q_gNil, q_gCons, q_gTup, q_gSub, q_asg, q_par, q_aug, q_nil, q_cons, q_tup, q_lst, q_call, q_cb, q_noPart, q_part, q_sl, q_bm0, q_bm, q_yes, q_for, q_lc, q_iList, q_iTup, q_iRng1, q_iEnumT, q_iEnum, q_iRng2, q_iZipA, q_iZipM, q_ipI, q_ckw, q_len, q_listOf, q_tupleOf, L2.start, cx_K, wipe, List.map_cons, List.map_nil, List.length_cons, List.length_nil, List.cons_append, List.nil_append, List.append_nil, List.replicate, List.getElem?_cons_zero, List.getElem?_cons_succ, List.set_cons_zero, List.set_cons_succ, Option.some.injEq, List.cons.injEq, exists_eq_left', exists_eq_left, exists_and_left, V.int.injEq, V.bl.injEq, V.ref.injEq, if_true, if_false, Bool.not_true, Bool.not_false, true_and, and_true, Bool.false_eq_true, ite_true, ite_false, Nat.reduceAdd, Nat.reduceSub, reduceCtorEq, decide_false, decide_true, Int.toNat_natCast, false_and, exists_false, or_false, false_or]))
section
variable {P : Program} {w : World} {K : PySem.W.Frag} {mg : Str → Option Value} {base : Heap}
def dragD (xs ys : List Int) (b k : Nat) : List Nat := (List.range k).filter fun o => decide (o ≠ b) && decide (ys.getD o 0 ≠ xs.getD o 0)
theorem dragD_succ (xs ys : List Int) (b k : Nat) : dragD xs ys b (k + 1) = dragD xs ys b k ++ (if k ≠ b ∧ ys.getD k 0 ≠ xs.getD k 0 then [k] else []) := by
  unfold dragD
  rw [List.range_succ, List.filter_append, List.filter_cons, List.filter_nil]
  by_cases h1 : k ≠ b <;> by_cases h2 : ys.getD k 0 ≠ xs.getD k 0 <;> simp [h1, h2]
theorem dragD_le (xs ys : List Int) (b k : Nat) : (dragD xs ys b k).length ≤ k := by
  unfold dragD
  have := List.length_filter_le (fun o => decide (o ≠ b) && decide (ys.getD o 0 ≠ xs.getD o 0)) (List.range k)
  rw [List.length_range] at this
  exact this
def natV (ks : List Nat) : List V := ks.map fun (k : Nat) => V.int (k : Int)
def leastD (d : Tab) (ws : List (Option Int)) (xs : List Int) (k : Nat) : List Int :=
  (List.range k).foldl (fun ys i => match ws.getD i none with | none => ys | some v => if ys.getD i 0 < v then moveD d ys i v else ys) xs
theorem leastD_succ (d : Tab) (ws : List (Option Int)) (xs : List Int) (k : Nat) : leastD d ws xs (k + 1) = match ws.getD k none with | none => leastD d ws xs k | some v => if (leastD d ws xs k).getD k 0 < v then moveD d (leastD d ws xs k) k v else leastD d ws xs k := by
  unfold leastD
  rw [List.range_succ, List.foldl_append]
  rfl
theorem leastD_len (d : Tab) (ws : List (Option Int)) (xs : List Int) : ∀ k, (leastD d ws xs k).length = xs.length
  | 0 => rfl
  | k + 1 => by
    rw [leastD_succ]
    have ih := leastD_len d ws xs k
    cases ws.getD k none with
    | none => exact ih
    | some v =>
      show (if (leastD d ws xs k).getD k 0 < v then moveD d (leastD d ws xs k) k v else leastD d ws xs k).length = _
      split
      · rw [moveD_len]
        exact ih
      · exact ih
theorem opts_at {es : List (Option Int)} {i : Nat} {x : V} (h : (es.map ovV)[i]? = some x) : i < es.length ∧ x = ovV (es.getD i none) := by
  rw [List.getElem?_map] at h
  cases e : es[i]? with
  | none =>
    rw [e] at h
    cases h
  | some y =>
    rw [e] at h
    refine ⟨(List.getElem?_eq_some_iff.mp e).1, ?_⟩
    rw [List.getD_eq_getElem?_getD, e]
    exact (Option.some.inj h).symm
theorem at_opts {es : List (Option Int)} {i : Nat} (h : i < es.length) : (es.map ovV)[i]? = some (ovV (es.getD i none)) := by
  rw [List.getElem?_map, List.getD_eq_getElem?_getD, List.getElem?_eq_getElem h]
  rfl
end
end Hx

set_option Elab.async false
set_option linter.all false
set_option maxRecDepth 100000
set_option maxHeartbeats 4000000
namespace Hx
open PySem PySem.Spec PyProof.Rows L2
local macro_rules | `(tactic| walk_at "rd") => `(tactic| (try simp only [q_var, q_c, q_op, q_un, q_rI, q_rI0, q_rU, q_rEq, q_rNe, q_test, q_tB, q_and, q_or, q_not, q_andV, q_orV, q_notV, q_if, q_isN, q_notN, q_chain, q_next, q_seq, q_break, q_cont, q_drop, q_ret, q_retN, q_ifS, q_never, q_gN, q_gNil, q_gCons, q_gTup, q_gSub, q_asg, q_par, q_aug, q_nil, q_cons, q_tup, q_lst, q_call, q_cb, q_noPart, q_part, q_sl, q_bm0, q_bm, q_yes, q_for, q_lc, q_iList, q_iTup, q_iRng1, q_iEnumT, q_iEnum, q_iRng2, q_iZipA, q_iZipM, q_ipI, q_ckw, q_len, q_listOf, q_tupleOf, L2.start, cx_K, wipe, List.map_cons, List.map_nil, List.length_cons, List.length_nil, List.cons_append, List.nil_append, List.append_nil, List.replicate, List.getElem?_cons_zero, List.getElem?_cons_succ, List.set_cons_zero, List.set_cons_succ, Option.some.injEq, List.cons.injEq, exists_eq_left', exists_eq_left, exists_and_left, V.int.injEq, V.bl.injEq, V.ref.injEq, if_true, if_false, Bool.not_true, Bool.not_false, true_and, and_true, Bool.false_eq_true, ite_true, ite_false, Nat.reduceAdd, Nat.reduceSub, reduceCtorEq, decide_false, decide_true, Int.toNat_natCast, false_and, exists_false, or_false, false_or]))
section
variable {P : Program} {w : World} {K : PySem.W.Frag} {mg : Str → Option Value} {base : Heap}
/-- the law's row of numbers stands at a -/
def RowAt (K : PySem.W.Frag) (H : Hp) (a s : Addr) (ns : List Int) : Prop := ∃ i z l : Int, H a = some (.lst [.ref s, .int i, .int z, .int l]) ∧ SqL K H s (ns.map V.int) ∧ (s ≠ a ∨ SqL K (fun _ => none) s (ns.map V.int)) ∧ 0 ≤ i ∧ 0 ≤ z ∧ z < 2147483647 ∧ 0 ≤ l
theorem sql_frag {H : Hp} {b : Addr} {xs : List V} (h : SqL K (fun _ => none) b xs) : SqL K H b xs := by
  rcases h with (h | ⟨o, h⟩) | h
  · cases h
  · cases h
  · exact .inr h
theorem sql_but {H H' : Hp} {a b : Addr} {xs : List V} (e : But a H H') (n : b ≠ a ∨ SqL K (fun _ => none) b xs) (h : SqL K H b xs) : SqL K H' b xs := by
  rcases n with n | n
  · rcases h with (h | ⟨o, h⟩) | h
    · exact .inl (.inl (e _ _ n h))
    · exact .inl (.inr ⟨o, e _ _ n h⟩)
    · exact .inr h
  · exact sql_frag n
theorem fmod_bounds (x : Int) {m : Int} (h : 1 ≤ m) : 0 ≤ x.fmod m ∧ x.fmod m < m := by
  rw [Int.fmod_eq_emod_of_nonneg x (by omega)]
  exact ⟨Int.emod_nonneg _ (by omega), Int.emod_lt_of_pos _ (by omega)⟩
theorem fdiv_nonneg {x m : Int} (hx : 0 ≤ x) (h : 1 ≤ m) : 0 ≤ x.fdiv m := by
  rw [Int.fdiv_eq_ediv_of_nonneg x (by omega)]
  exact Int.ediv_nonneg hx (by omega)
def s_law_taken : Stmt := topS 56
abbrev n_law_taken : List Str := ["_law_row", "_law_many", "_law_found", "_law_cell"]
abbrev p_law_taken : List Str := ["_law_row", "_law_many"]
theorem sc_law_taken : FnScope n_law_taken p_law_taken (defScope s_law_taken) := ⟨rfl, rfl, rfl, by decide +kernel, rfl, by decide +kernel, by decide +kernel⟩
def sp_law_taken (K : PySem.W.Frag) : Sp := fun vs H Q _ => ∃ (a sc : Addr) (ns : List Int) (m : Int), vs = [.ref a, .int m] ∧ RowAt K H a sc ns ∧ 1 ≤ m ∧ m < 1073741824 ∧ ∀ r H', 0 ≤ r → r < m → RowAt K H' a sc ns → But a H H' → Q (.int r) H'
theorem df_law_taken (T : Here K mg "_law_taken" s_law_taken) (B : Blt mg) : Df P w K mg base CX0 "_law_taken" 1 p_law_taken (sp_law_taken K) := by
  refine T.df sc_law_taken (fun _ _ _ _ _ _ us hl => match us, hl with | [_, _], _ => rfl) (fun vs H Q E h => by obtain ⟨_, _, _, _, rfl, _⟩ := h; rfl) (fun f cdv A outer s H vs Q E hr h => ?_)
  obtain ⟨a, sc, ns, m, rfl, ⟨i, z, l, hL, hs, hne, hi, hz0, hz1, hl⟩, hm, hm2, q⟩ := h
  refine ⟨_, pss_cons (ps_if (pt_cmpR op_gt (pe_ix (ixL K rfl) (pv 0) (pe_int) (fun _ _ => rfl)) (pe_int) (nomark _)) (pss_cons (ps_set (i := 2) sc_law_taken.nd rfl (by first | exact Or.inl rfl | exact Or.inr rfl) (pe_op op_modN (pe_callTy call_int1 (by rfl) B.int (by decide +kernel) (pa_cons (pe_ix (ixL K rfl) (pv 0) (pe_int) (fun _ _ => rfl)) pa_nil)) (pv 1)))
      (pss_cons (ps_asg (pe_op op_fdivN (pe_ix (ixL K rfl) (pv 0) (pe_int) (fun _ _ => rfl)) (pv 1)) (pg_sub (pv 0) (pe_int) set_list))
      (pss_one (ps_ret (pv 2))))) (pss_nil))
      (pss_cons (ps_asg (pe_op op_add (pe_ix (ixL K rfl) (pv 0) (pe_int) (fun _ _ => rfl)) (pe_int)) (pg_sub (pv 0) (pe_int) set_list))
      (pss_cons (ps_if (pt_cmpR op_gt (pe_ix (ixL K rfl) (pv 0) (pe_int) (fun _ _ => rfl)) (pe_callB (lenQ K rfl) (by rfl) B.len (by decide +kernel) (pa_cons (pe_ix (ixL K rfl) (pv 0) (pe_int) (fun _ _ => rfl)) pa_nil)) (nomark _)) (pss_cons (ps_asg (pe_op op_modN (pe_callTy call_int1 (by rfl) B.int (by decide +kernel) (pa_cons (pe_op op_add (pe_op op_mul (pe_ix (ixL K rfl) (pv 0) (pe_int) (fun _ _ => rfl)) (pe_int)) (pe_int)) pa_nil)) (pe_int)) (pg_sub (pv 0) (pe_int) set_list))
      (pss_one (ps_ret (pe_op op_modN (pe_callTy call_int1 (by rfl) B.int (by decide +kernel) (pa_cons (pe_op op_fdivN (pe_ix (ixL K rfl) (pv 0) (pe_int) (fun _ _ => rfl)) (pe_int)) pa_nil)) (pv 1))))) (pss_nil))
      (pss_cons (ps_set (i := 3) sc_law_taken.nd rfl (by first | exact Or.inl rfl | exact Or.inr rfl) (pe_ix (ixL K rfl) (pe_ix (ixL K rfl) (pv 0) (pe_int) (fun _ _ => rfl)) (pe_op op_sub (pe_ix (ixL K rfl) (pv 0) (pe_int) (fun _ _ => rfl)) (pe_int)) (fun _ _ => rfl)))
      (pss_cons (ps_asg (pe_op op_modN (pe_callTy call_int1 (by rfl) B.int (by decide +kernel) (pa_cons (pe_op op_add (pe_op op_add (pe_op op_mul (pe_ix (ixL K rfl) (pv 0) (pe_int) (fun _ _ => rfl)) (pe_int)) (pv 3)) (pe_int)) pa_nil)) (pe_int)) (pg_sub (pv 0) (pe_int) set_list))
      (pss_cons (ps_if (pt_cmpR op_ge (pv 3) (pe_op op_pow (pe_int) (pe_int)) (nomark _)) (pss_one (ps_asg (pe_op op_fdivN (pv 3) (pv 1)) (pg_sub (pv 0) (pe_int) set_list))) (pss_nil))
      (pss_one (ps_ret (pe_op op_modN (pe_callTy call_int1 (by rfl) B.int (by decide +kernel) (pa_cons (pv 3) pa_nil)) (pv 1))))))))), ?_⟩
  have g : ∀ {H : Hp} {xs : List V} {j : Nat} {v : V}, H a = some (.lst xs) → xs[j]? = some v → ∀ {R : VK}, R v H → rIxL K (.ref a) (.int j) H R := fun h e R r => ⟨a, _, _, _, rfl, rfl, .of h, atI_nat e, r⟩
  have fin : ∀ {H' : Hp} {r i' z' l' : Int}, 0 ≤ r ∧ r < m → But a H H' → H' a = some (.lst [.ref sc, .int i', .int z', .int l']) → 0 ≤ i' → 0 ≤ z' ∧ z' < 2147483647 → 0 ≤ l' → Q (.int r) H' :=
    fun h1 hb hL' h2 h3 h4 => q _ _ h1.1 h1.2 ⟨_, _, _, hL', sql_but hb hne hs, hne, h2, h3.1, h3.2, h4⟩ hb
  walk_at "rd"
  refine g (j := 3) hL rfl ?_
  walk_at "rd"
  by_cases h0 : 0 < l
  · simp only [h0, decide_true, ite_true]
    refine g (j := 3) hL rfl ?_
    walk_at "rd"
    refine ⟨by omega, g (j := 3) hL rfl ?_⟩
    walk_at "rd"
    refine ⟨⟨by omega, by omega⟩, a, _, 3, 3, rfl, rfl, hL, rfl, ?_⟩
    exact fin (fmod_bounds l hm) but_upd upd_same hi ⟨hz0, hz1⟩ (fdiv_nonneg hl hm)
  · simp only [h0, decide_false, Bool.false_eq_true, ite_false]
    refine g (j := 1) hL rfl ?_
    walk_at "rd"
    refine ⟨a, _, 1, 1, rfl, rfl, hL, rfl, ?_⟩
    walk_at "rd"
    have b1 : But a H (upd H a (.lst [.ref sc, .int (i + 1), .int z, .int l])) := but_upd
    have hs1 := sql_but b1 hne hs
    refine g (j := 1) upd_same rfl ?_
    refine g (j := 0) upd_same rfl ?_
    walk_at "rd"
    refine ⟨_, .inl hs1, ?_⟩
    rw [List.length_map]
    by_cases h1 : (ns.length : Int) < i + 1
    · simp only [h1, decide_true, ite_true]
      refine g (j := 2) upd_same rfl ?_
      walk_at "rd"
      refine ⟨.inl ⟨by omega, by omega⟩, by omega, a, _, 2, 2, rfl, rfl, upd_same, rfl, ?_⟩
      walk_at "rd"
      rw [upd_upd]
      refine g (j := 2) upd_same rfl ?_
      walk_at "rd"
      refine ⟨⟨by omega, by omega⟩, by omega, ?_⟩
      exact fin (fmod_bounds _ hm) but_upd upd_same (by omega) (fmod_bounds _ (by omega)) hl
    · simp only [h1, decide_false, Bool.false_eq_true, ite_false]
      refine g (j := 0) upd_same rfl ?_
      refine g (j := 1) upd_same rfl ?_
      walk_at "rd"
      have hk : i.toNat < ns.length := by omega
      refine ⟨sc, _, _, .int (ns.getD i.toNat 0), rfl, rfl, hs1, ?_, ?_⟩
      · refine at_of (j := i.toNat) (by omega) ?_
        exact at_ints hk
      generalize ns.getD i.toNat 0 = cell
      walk_at "rd"
      refine g (j := 2) upd_same rfl ?_
      walk_at "rd"
      refine ⟨.inl ⟨by omega, by omega⟩, by omega, a, _, 2, 2, rfl, rfl, upd_same, rfl, ?_⟩
      walk_at "rd"
      rw [upd_upd]
      have hz' := fmod_bounds (z * 48271 + cell + 11) (show (1 : Int) ≤ 2147483647 by omega)
      refine ⟨⟨by omega, by omega, by decide⟩, ?_⟩
      by_cases h2 : (10 : Int) ^ (18 : Int).toNat ≤ cell
      · have h3 : 0 ≤ cell := Int.le_trans (by decide) h2
        simp only [h2, decide_true, ite_true]
        refine ⟨⟨by omega, by omega⟩, a, _, 3, 3, rfl, rfl, upd_same, rfl, ?_⟩
        walk_at "rd"
        rw [upd_upd]
        refine ⟨by omega, ?_⟩
        exact fin (fmod_bounds _ hm) but_upd upd_same (by omega) hz' (fdiv_nonneg h3 hm)
      · simp only [h2, decide_false, Bool.false_eq_true, ite_false]
        refine ⟨by omega, ?_⟩
        exact fin (fmod_bounds _ hm) but_upd upd_same (by omega) hz' hl
end
end Hx

set_option Elab.async false
set_option linter.all false
set_option maxRecDepth 100000
set_option maxHeartbeats 4000000
namespace Hx
open PySem PySem.Spec PyProof.Rows L2
local macro_rules | `(tactic| walk_at "rd") => `(tactic| (try simp only [q_var, q_c, q_op, q_un, q_rI, q_rI0, q_rU, q_rEq, q_rNe, q_test, q_tB, q_and, q_or, q_not, q_andV, q_orV, q_notV, q_if, q_isN, q_notN, q_chain, q_next, q_seq, q_break, q_cont, q_drop, q_ret, q_retN, q_ifS, q_never, q_gN, q_gNil, q_gCons, q_gTup, q_gSub, q_asg, q_par, q_aug, q_nil, q_cons, q_tup, q_lst, q_call, q_cb, q_noPart, q_part, q_sl, q_bm0, q_bm, q_yes, q_for, q_lc, q_iList, q_iTup, q_iRng1, q_iEnumT, q_iEnum, q_iRng2, q_iZipA, q_iZipM, q_ipI, q_ckw, q_len, q_listOf, q_tupleOf, L2.start, cx_K, wipe, List.map_cons, List.map_nil, List.length_cons, List.length_nil, List.cons_append, List.nil_append, List.append_nil, List.replicate, List.getElem?_cons_zero, List.getElem?_cons_succ, List.set_cons_zero, List.set_cons_succ, Option.some.injEq, List.cons.injEq, exists_eq_left', exists_eq_left, exists_and_left, V.int.injEq, V.bl.injEq, V.ref.injEq, if_true, if_false, Bool.not_true, Bool.not_false, true_and, and_true, Bool.false_eq_true, ite_true, ite_false, Nat.reduceAdd, Nat.reduceSub, reduceCtorEq, decide_false, decide_true, Int.toNat_natCast, false_and, exists_false, or_false, false_or]))
def settle1 (c : List Int) (r : Rope) : List Int := c.set r.r.toNat (if c.getD r.f.toNat 0 - r.l > c.getD r.r.toNat 0 then c.getD r.f.toNat 0 - r.l else c.getD r.r.toNat 0)
def settleR (rs : List Rope) (c : List Int) : List Int := rs.foldl settle1 c
def settleN (rs : List Rope) (c : List Int) (k : Nat) : List Int := (List.range k).foldl (fun c _ => settleR rs c) c
theorem settle1_len (c : List Int) (r : Rope) : (settle1 c r).length = c.length := List.length_set
theorem settleR_len : ∀ (rs : List Rope) (c : List Int), (settleR rs c).length = c.length
  | [], _ => rfl
  | r :: rs, c => by
    show (settleR rs (settle1 c r)).length = _
    rw [settleR_len rs, settle1_len]
theorem settleN_succ (rs : List Rope) (c : List Int) (k : Nat) : settleN rs c (k + 1) = settleR rs (settleN rs c k) := by
  unfold settleN
  rw [List.range_succ, List.foldl_append]
  rfl
theorem settleN_len (rs : List Rope) (c : List Int) : ∀ k, (settleN rs c k).length = c.length
  | 0 => rfl
  | k + 1 => by rw [settleN_succ, settleR_len, settleN_len rs c k]
theorem settleR_take {rs : List Rope} {i : Nat} {r : Rope} (h : rs[i]? = some r) (c : List Int) : settleR (rs.take (i + 1)) c = settle1 (settleR (rs.take i) c) r := by
  unfold settleR
  rw [List.take_add_one, h, List.foldl_append]
  rfl
instance (xs : List Int) (r : Rope) : Decidable (Holds1 xs r) := inferInstanceAs (Decidable (_ ≤ _))
instance (xs : List Int) (rs : List Rope) : Decidable (Valid xs rs) := inferInstanceAs (Decidable (∀ r ∈ rs, Holds1 xs r))
section
variable {P : Program} {w : World} {K : PySem.W.Frag} {mg : Str → Option Value} {base : Heap}
/-- a turn's rope of the tuple of a fleet -/
theorem rope_at {H : Hp} {n : Nat} {rs : List Rope} {ys : List V} (hl : ys.length = rs.length) (hx : ∀ (i : Nat) (r : Rope), rs[i]? = some r → ∃ v, ys[i]? = some v ∧ RopeV K H v r) (h4 : ∀ r ∈ rs, RopeOk n r)
    {i : Nat} {x : V} (hx' : ys[i]? = some x) : ∃ r c, rs[i]? = some r ∧ r ∈ rs ∧ x = .ref c ∧ SqT K H c [.int r.f, .int r.r, .int r.l] ∧ ∃ f g : Nat, r.f = f ∧ r.r = g ∧ f < n ∧ g < n ∧ f ≠ g := by
  have hi : i < rs.length := by
    rw [← hl]
    exact (List.getElem?_eq_some_iff.mp hx').1
  obtain ⟨u, hu, c, rfl, hc⟩ := hx i rs[i] (List.getElem?_eq_getElem hi)
  cases hx'.symm.trans hu
  obtain ⟨g1, g2, g3, g4, g5, _⟩ := h4 _ (List.getElem_mem hi)
  exact ⟨_, c, List.getElem?_eq_getElem hi, List.getElem_mem hi, rfl, hc, rs[i].f.toNat, rs[i].r.toNat, by omega, by omega, by omega, by omega, by omega⟩
theorem ints_set (xs : List Int) (j : Nat) (v : Int) : (xs.map V.int).set j (.int v) = (xs.set j v).map V.int := by
  rw [List.map_set]
def s_law_settled : Stmt := topS 57
abbrev n_law_settled : List Str := ["_law_fleet_here", "_law_positions_here", "_law_result", "_law_turn", "_law_front", "_law_rear", "_law_length"]
abbrev p_law_settled : List Str := ["_law_fleet_here", "_law_positions_here"]
theorem sc_law_settled : FnScope n_law_settled p_law_settled (defScope s_law_settled) := ⟨rfl, rfl, rfl, by decide +kernel, rfl, by decide +kernel, by decide +kernel⟩
/-- ints at u, in a list or a tuple -/
def IntsA (K : PySem.W.Frag) (H : Hp) (u : V) (xs : List Int) : Prop := ∃ a, u = .ref a ∧ (SqL K H a (xs.map V.int) ∨ SqT K H a (xs.map V.int))
def sp_law_settled (K : PySem.W.Frag) : Sp := fun vs H Q _ => ∃ (v u : V) (n : Nat) (rs : List Rope) (xs : List Int), vs = [v, u] ∧ FleetV K H v n rs ∧ (∀ r ∈ rs, RopeOk n r) ∧ n ≤ 8 ∧ IntsA K H u xs ∧ xs.length = n ∧
  (Valid (settleN rs xs (n + 1)) rs → ∀ H' p, Same H H' → H p = none → H' p = some (.tup ((settleN rs xs (n + 1)).map V.int)) → Q (.ref p) H') ∧ (¬ Valid (settleN rs xs (n + 1)) rs → ∀ H', Same H H' → Q .non H')
theorem df_law_settled (T : Here K mg "_law_settled" s_law_settled) (B : Blt mg) : Df P w K mg base CX0 "_law_settled" 1 p_law_settled (sp_law_settled K) := by
  refine T.df sc_law_settled (fun _ _ _ _ _ _ us hl => match us, hl with | [_, _], _ => rfl) (fun vs H Q E h => by obtain ⟨_, _, _, _, _, rfl, _⟩ := h; rfl) (fun f cdv A outer s H vs Q E hr h => ?_)
  obtain ⟨v, u, n, rs, xs, rfl, ⟨a, b, ys, rfl, ha, hb, hl, hx⟩, h4, h8, ⟨c, rfl, hc⟩, hn, q1, q2⟩ := h
  refine ⟨_, pss_cons (ps_set (i := 2) sc_law_settled.nd rfl (by first | exact Or.inl rfl | exact Or.inr rfl) (pe_callTy (listOf K rfl) (by rfl) B.list (by decide +kernel) (pa_cons (pv 1) pa_nil)))
      (pss_cons (ps_for PassesOwn.never rfl (pi_range1 (by rfl) B.range (pa_cons (pe_op op_add (pe_ix (ixT K rfl) (pv 0) (pe_int) (fun _ _ => rfl)) (pe_int)) pa_nil)) (pg_name (i := 3) sc_law_settled.nd rfl (by first | exact Or.inl rfl | exact Or.inr rfl)) (pss_one (ps_for PassesOwn.never rfl (piTup K rfl (pe_ix (ixT K rfl) (pv 0) (pe_int) (fun _ _ => rfl))) (pgTup K rfl (n := 3) rfl (pgs_cons (pg_name (i := 4) sc_law_settled.nd rfl (by first | exact Or.inl rfl | exact Or.inr rfl)) (pgs_cons (pg_name (i := 5) sc_law_settled.nd rfl (by first | exact Or.inl rfl | exact Or.inr rfl)) (pgs_cons (pg_name (i := 6) sc_law_settled.nd rfl (by first | exact Or.inl rfl | exact Or.inr rfl)) pgs_nil)))) (pss_one (ps_asg (pe_callB (call_max2 rfl) (by rfl) B.max (by decide +kernel) (pa_cons (pe_ix (ixL K rfl) (pv 2) (pv 5) (fun _ _ => rfl)) (pa_cons (pe_op op_sub (pe_ix (ixL K rfl) (pv 2) (pv 4) (fun _ _ => rfl)) (pv 6)) pa_nil))) (pg_sub (pv 2) (pv 5) set_list))))))
      (pss_cons (ps_for PassesOwn.never rfl (piTup K rfl (pe_ix (ixT K rfl) (pv 0) (pe_int) (fun _ _ => rfl))) (pgTup K rfl (n := 3) rfl (pgs_cons (pg_name (i := 4) sc_law_settled.nd rfl (by first | exact Or.inl rfl | exact Or.inr rfl)) (pgs_cons (pg_name (i := 5) sc_law_settled.nd rfl (by first | exact Or.inl rfl | exact Or.inr rfl)) (pgs_cons (pg_name (i := 6) sc_law_settled.nd rfl (by first | exact Or.inl rfl | exact Or.inr rfl)) pgs_nil)))) (pss_one (ps_if (pt_cmpR op_lt (pe_ix (ixL K rfl) (pv 2) (pv 5) (fun _ _ => rfl)) (pe_op op_sub (pe_ix (ixL K rfl) (pv 2) (pv 4) (fun _ _ => rfl)) (pv 6)) (nomark _)) (pss_one (ps_ret (pe_non))) (pss_nil))))
      (pss_one (ps_ret (pe_callTy (tupleOf K rfl) (by rfl) B.tuple (by decide +kernel) (pa_cons (pv 2) pa_nil)))))), ?_⟩
  walk_at "rd"
  refine ⟨_, hc, fun l hl0 => ?_⟩
  have s0 := same_upd (o := .lst (xs.map V.int)) hl0
  walk_at "rd"
  refine ⟨a, _, 0, _, rfl, rfl, sqt_same s0 ha, atI_nat (j := 0) rfl, ?_⟩
  walk_at "rd"
  have e1 : ((n : Int) + 1).toNat = n + 1 := by omega
  rw [e1]
  refine ⟨by omega, by omega, ?_⟩
  refine forRange (fun k σ H' => ∃ x3 x4 x5 x6, σ = [some (.ref a), some (.ref c), some (.ref l), x3, x4, x5, x6] ∧ Same H H' ∧ H' l = some (.lst ((settleN rs xs k).map V.int))) ⟨_, _, _, _, rfl, s0, upd_same⟩ (fun k σ H' hk hPv => ?_) (fun σ H' hPv => ?_)
  · obtain ⟨x3, x4, x5, x6, rfl, e, hL⟩ := hPv
    have ln := settleN_len rs xs k
    generalize hc0 : settleN rs xs k = c0 at hL ln ⊢
    walk_at "rd"
    refine ⟨a, _, 1, _, rfl, rfl, sqt_same e ha, atI_nat (j := 1) rfl, ?_⟩
    walk_at "rd"
    refine ⟨⟨_, sqt_same e hb⟩, ?_⟩
    refine forTup (xs := ys) (fun i σ H' => ∃ x4 x5 x6, σ = [some (.ref a), some (.ref c), some (.ref l), some (.int k), x4, x5, x6] ∧ Same H H' ∧ H' l = some (.lst ((settleR (rs.take i) c0).map V.int))) ⟨_, _, _, rfl, e, hL⟩ (fun i σ H' _ hPv => ?_) (fun i x σ H' hx' hPv => ?_) (fun σ H' hPv => ?_)
    · obtain ⟨_, _, _, _, e, _⟩ := hPv
      exact sqt_same e hb
    · obtain ⟨x4, x5, x6, rfl, e, hL⟩ := hPv
      obtain ⟨r, d, hri, _, rfl, hd, f, g, ef, eg, hf, hg, _⟩ := rope_at hl hx h4 hx'
      have lc := settleR_len (rs.take i) c0
      rw [settleR_take hri]
      generalize settleR (rs.take i) c0 = c1 at hL lc ⊢
      walk_at "rd"
      refine ⟨_, sqt_same e hd, rfl, ?_⟩
      walk_at "rd"
      rw [ef, eg]
      refine ⟨l, _, g, _, rfl, rfl, .of hL, atI_nat (at_ints (by omega)), l, _, f, _, rfl, rfl, .of hL, atI_nat (at_ints (by omega)), ?_⟩
      walk_at "rd"
      refine ⟨_, _, ⟨rfl, rfl⟩, ?_⟩
      refine ⟨l, _, g, g, rfl, rfl, hL, ix_nat (by rw [List.length_map]; omega), ?_⟩
      refine ⟨_, _, _, ⟨rfl, rfl, rfl⟩, fun z o hz => ?_, ?_⟩
      · rw [upd_ne (ne_of_none hz hl0)]
        exact e z o hz
      · rw [upd_same, ints_set]
        unfold settle1
        rw [ef, eg, Int.toNat_natCast, Int.toNat_natCast]
    · obtain ⟨x4, x5, x6, rfl, e, hL⟩ := hPv
      rw [List.take_of_length_le (by omega)] at hL
      refine ⟨_, _, _, _, rfl, e, ?_⟩
      rw [settleN_succ, hc0]
      exact hL
  · obtain ⟨x3, x4, x5, x6, rfl, e, hL⟩ := hPv
    have ln := settleN_len rs xs (n + 1)
    generalize settleN rs xs (n + 1) = c0 at hL ln q1 q2
    walk_at "rd"
    refine ⟨a, _, 1, _, rfl, rfl, sqt_same e ha, atI_nat (j := 1) rfl, ?_⟩
    walk_at "rd"
    refine ⟨⟨_, sqt_same e hb⟩, ?_⟩
    refine forTup (xs := ys) (fun i σ H' => ∃ x4 x5 x6, σ = [some (.ref a), some (.ref c), some (.ref l), x3, x4, x5, x6] ∧ Same H H' ∧ H' l = some (.lst (c0.map V.int)) ∧ ∀ r ∈ rs.take i, Holds1 c0 r) ⟨_, _, _, rfl, e, hL, fun r h => (by cases h)⟩ (fun i σ H' _ hPv => ?_) (fun i x σ H' hx' hPv => ?_) (fun σ H' hPv => ?_)
    · obtain ⟨_, _, _, _, e, _⟩ := hPv
      exact sqt_same e hb
    · obtain ⟨x4, x5, x6, rfl, e, hL, hh⟩ := hPv
      obtain ⟨r, d, hri, hrm, rfl, hd, f, g, ef, eg, hf, hg, _⟩ := rope_at hl hx h4 hx'
      walk_at "rd"
      refine ⟨_, sqt_same e hd, rfl, ?_⟩
      walk_at "rd"
      rw [ef, eg]
      refine ⟨l, _, g, _, rfl, rfl, .of hL, atI_nat (at_ints (by omega)), l, _, f, _, rfl, rfl, .of hL, atI_nat (at_ints (by omega)), ?_⟩
      walk_at "rd"
      by_cases hlt : c0.getD g 0 < c0.getD f 0 - r.l
      · simp only [hlt, decide_true, ite_true]
        refine q2 (fun hv => ?_) _ e
        have := hv r hrm
        unfold Holds1 at this
        rw [ef, eg, Int.toNat_natCast, Int.toNat_natCast] at this
        omega
      · simp only [hlt, decide_false, Bool.false_eq_true, ite_false]
        refine ⟨_, _, _, ⟨rfl, rfl, rfl⟩, e, hL, fun r' hr' => ?_⟩
        rw [List.take_add_one, hri] at hr'
        rcases List.mem_append.mp hr' with h | h
        · exact hh r' h
        · cases List.mem_singleton.mp h
          unfold Holds1
          rw [ef, eg, Int.toNat_natCast, Int.toNat_natCast]
          omega
    · obtain ⟨x4, x5, x6, rfl, e, hL, hh⟩ := hPv
      rw [List.take_of_length_le (by omega)] at hh
      walk_at "rd"
      refine ⟨_, .inl ⟨.of hL, fun p hp => ?_⟩⟩
      exact q1 hh _ p (e.trans (same_upd hp)) (e.free hp) upd_same
end
end Hx

set_option Elab.async false
set_option linter.all false
set_option maxRecDepth 100000
set_option maxHeartbeats 4000000
namespace Hx
open PySem PySem.Spec PyProof.Rows L2
local macro_rules | `(tactic| walk_at "rd") => `(tactic| (try simp only [q_var, q_c, q_op, q_un, q_rI, q_rI0, q_rU, q_rEq, q_rNe, q_test, q_tB, q_and, q_or, q_not, q_andV, q_orV, q_notV, q_if, q_isN, q_notN, q_chain, q_next, q_seq, q_break, q_cont, q_drop, q_ret, q_retN, q_ifS, q_never, q_gN, q_gNil, q_gCons, q_gTup, q_gSub, q_asg, q_par, q_aug, q_nil, q_cons, q_tup, q_lst, q_call, q_cb, q_noPart, q_part, q_sl, q_bm0, q_bm, q_yes, q_for, q_lc, q_iList, q_iTup, q_iRng1, q_iEnumT, q_iEnum, q_iRng2, q_iZipA, q_iZipM, q_ipI, q_ckw, q_len, q_listOf, q_tupleOf, L2.start, cx_K, wipe, List.map_cons, List.map_nil, List.length_cons, List.length_nil, List.cons_append, List.nil_append, List.append_nil, List.replicate, List.getElem?_cons_zero, List.getElem?_cons_succ, List.set_cons_zero, List.set_cons_succ, Option.some.injEq, List.cons.injEq, exists_eq_left', exists_eq_left, exists_and_left, V.int.injEq, V.bl.injEq, V.ref.injEq, if_true, if_false, Bool.not_true, Bool.not_false, true_and, and_true, Bool.false_eq_true, ite_true, ite_false, Nat.reduceAdd, Nat.reduceSub, reduceCtorEq, decide_false, decide_true, Int.toNat_natCast, false_and, exists_false, or_false, false_or]))
section
variable {P : Program} {w : World} {K : PySem.W.Frag} {mg : Str → Option Value} {base : Heap}
theorem RowAt.lst {H : Hp} {a sc : Addr} {ns : List Int} (h : RowAt K H a sc ns) : ∃ xs, H a = some (.lst xs) := by
  obtain ⟨_, _, _, h, _⟩ := h
  exact ⟨_, h⟩
theorem RowAt.ne {H : Hp} {a p sc : Addr} {ns : List Int} (h : RowAt K H a sc ns) (hp : H p = none) : p ≠ a := fun e => by
  obtain ⟨_, h⟩ := h.lst
  rw [← e, hp] at h
  cases h
theorem RowAt.mono {H H' : Hp} {a sc : Addr} {ns : List Int} (h : RowAt K H a sc ns) (e : Same H H') : RowAt K H' a sc ns := by
  obtain ⟨i, z, l, h1, h2, h3⟩ := h
  exact ⟨i, z, l, e _ _ h1, e.seq h2, h3⟩
/-- what was free at H0 is written: the row stays -/
theorem RowAt.put {H0 H : Hp} {a p sc : Addr} {ns : List Int} {o : HO} (h0 : RowAt K H0 a sc ns) (hp : H0 p = none) (b : But a H0 H) (h : RowAt K H a sc ns) : RowAt K (upd H p o) a sc ns := by
  obtain ⟨i, z, l, h1, h2, h3, h4⟩ := h
  obtain ⟨_, _, _, _, k2, k3, _⟩ := id h0
  refine ⟨i, z, l, by rw [upd_ne (h0.ne hp).symm]; exact h1, ?_, h3, h4⟩
  rcases k3 with k3 | k3
  case inr => exact sql_frag k3
  rcases k2 with (k | ⟨ob, k⟩) | k
  · exact .inl (.inl (by rw [upd_ne (ne_of_none k hp)]; exact b _ _ k3 k))
  · exact .inl (.inr ⟨ob, by rw [upd_ne (ne_of_none k hp)]; exact b _ _ k3 k⟩)
  · exact .inr k
theorem But.put {H0 H : Hp} {a p : Addr} {o : HO} (b : But a H0 H) (hp : H0 p = none) : But a H0 (upd H p o) := fun c u n e => by
  rw [upd_ne (ne_of_none e hp)]
  exact b c u n e
/-- fleets that places keep -/
def Kept (n : Nat) (rs : List Rope) : Prop := ∃ pl : Nat → Int, (∀ i, 0 ≤ pl i ∧ pl i ≤ 88) ∧ ∀ r ∈ rs, HoldsR pl r
/-- ropes at refs -/
def RopesX (K : PySem.W.Frag) (H : Hp) (xs : List V) (rs : List Rope) : Prop := xs.length = rs.length ∧ ∀ (i : Nat) (r : Rope), rs[i]? = some r → ∃ v, xs[i]? = some v ∧ RopeV K H v r
theorem RopesX.same {H H' : Hp} {xs : List V} {rs : List Rope} (h : RopesX K H xs rs) (e : Same H H') : RopesX K H' xs rs :=
  ⟨h.1, fun i r hr => by
    obtain ⟨v, hv, k⟩ := h.2 i r hr
    exact ⟨v, hv, k.mono e⟩⟩
theorem RopeV.but {H H' : Hp} {a : Addr} {ys : List V} {v : V} {r : Rope} (h : RopeV K H v r) (e : But a H H') (ha : H a = some (.lst ys)) : RopeV K H' v r := by
  obtain ⟨c, rfl, h⟩ := h
  exact ⟨c, rfl, sqt_but e ha h⟩
theorem RopesX.but {H H' : Hp} {a : Addr} {ys xs : List V} {rs : List Rope} (h : RopesX K H xs rs) (e : But a H H') (ha : H a = some (.lst ys)) : RopesX K H' xs rs :=
  ⟨h.1, fun i r hr => by
    obtain ⟨v, hv, k⟩ := h.2 i r hr
    exact ⟨v, hv, k.but e ha⟩⟩
theorem RopesX.snoc {H : Hp} {xs : List V} {rs : List Rope} {v : V} {r : Rope} (h : RopesX K H xs rs) (k : RopeV K H v r) : RopesX K H (xs ++ [v]) (rs ++ [r]) := by
  refine ⟨by rw [List.length_append, List.length_append, h.1]; rfl, fun i q hq => ?_⟩
  by_cases hi : i < rs.length
  · rw [List.getElem?_append_left hi] at hq
    obtain ⟨u, hu, ku⟩ := h.2 i q hq
    exact ⟨u, by rw [List.getElem?_append_left (by rw [h.1]; exact hi)]; exact hu, ku⟩
  · rw [List.getElem?_append_right (by omega)] at hq
    have e : i - rs.length = 0 := by
      cases hz : i - rs.length with
      | zero => rfl
      | succ k =>
        rw [hz] at hq
        cases hq
    rw [e] at hq
    cases hq
    refine ⟨v, ?_, k⟩
    rw [List.getElem?_append_right (by rw [h.1]; omega), h.1, e]
    rfl
theorem RopesX.take {H : Hp} {xs : List V} {rs : List Rope} (h : RopesX K H xs rs) (k : Nat) : RopesX K H (xs.take k) (rs.take k) := by
  refine ⟨by rw [List.length_take, List.length_take, h.1], fun i r hr => ?_⟩
  rw [List.getElem?_take] at hr
  split at hr
  · rename_i hik
    obtain ⟨v, hv, kv⟩ := h.2 i r hr
    exact ⟨v, by rw [List.getElem?_take, if_pos hik]; exact hv, kv⟩
  · cases hr
/-- the state of the loop that makes ropes -/
structure FlS (K : PySem.W.Frag) (a sc : Addr) (ns : List Int) (H3 : Hp) (L : Addr) (H : Hp) (xs : List V) (rs : List Rope) : Prop where
  row : RowAt K H a sc ns
  but : But a H3 H
  lst : H L = some (.lst xs)
  rx : RopesX K H xs rs
theorem FlS.call {a sc L : Addr} {ns : List Int} {H3 H H' : Hp} {xs : List V} {rs : List Rope} (h : FlS K a sc ns H3 L H xs rs) (n : L ≠ a) (r : RowAt K H' a sc ns) (b : But a H H') : FlS K a sc ns H3 L H' xs rs := by
  obtain ⟨_, k⟩ := h.row.lst
  exact ⟨r, h.but.trans b, b _ _ n h.lst, h.rx.but b k⟩
theorem FlS.new {a sc L : Addr} {ns : List Int} {H3 H H' : Hp} {xs : List V} {rs : List Rope} (h : FlS K a sc ns H3 L H xs rs) (e : Same H H') : FlS K a sc ns H3 L H' xs rs :=
  ⟨h.row.mono e, h.but.trans (same_but e), e _ _ h.lst, h.rx.same e⟩
theorem FlS.app {a sc L T : Addr} {ns : List Int} {H3 H : Hp} {xs : List V} {rs : List Rope} {r : Rope} (h : FlS K a sc ns H3 L H xs rs) (h3 : H3 L = none) (r3 : RowAt K H3 a sc ns) (hT : H T = some (.tup [.int r.f, .int r.r, .int r.l])) :
    FlS K a sc ns H3 L (upd H L (.lst (xs ++ [.ref T]))) (xs ++ [.ref T]) (rs ++ [r]) := by
  refine ⟨r3.put h3 h.but h.row, h.but.put h3, upd_same, ?_⟩
  have b : But L H (upd H L (.lst (xs ++ [.ref T]))) := but_upd
  exact (h.rx.but b h.lst).snoc ⟨T, rfl, sqt_but b h.lst (.of hT)⟩
theorem places_bound {pl : List Int} {fc : Int} (h : ∀ x ∈ pl, 0 ≤ x ∧ x ≤ 11 * fc) (h0 : 0 ≤ fc) (i : Nat) : 0 ≤ pl.getD i 0 ∧ pl.getD i 0 ≤ 11 * fc := by
  rw [List.getD_eq_getElem?_getD]
  cases e : pl[i]? with
  | none => exact ⟨Int.le_refl 0, by show (0 : Int) ≤ 11 * fc; omega⟩
  | some y => exact h y (List.mem_of_getElem? e)
def s_law_fleet : Stmt := topS 58
abbrev n_law_fleet : List Str := ["_law_row", "_law_most", "_law_count", "_law_factor", "_law_places", "_law_barge", "_law_ropes", "_law_k", "_law_front", "_law_rear", "_law_some", "_law_more"]
abbrev p_law_fleet : List Str := ["_law_row", "_law_most"]
theorem sc_law_fleet : FnScope n_law_fleet p_law_fleet (defScope s_law_fleet) := ⟨rfl, rfl, rfl, by decide +kernel, rfl, by decide +kernel, by decide +kernel⟩
def sp_law_fleet (K : PySem.W.Frag) : Sp := fun vs H Q _ => ∃ (a sc : Addr) (ns : List Int) (m : Int), vs = [.ref a, .int m] ∧ RowAt K H a sc ns ∧ 1 ≤ m ∧ m ≤ 8 ∧
  ∀ H' v (n : Nat) rs, RowAt K H' a sc ns → But a H H' → FleetV K H' v n rs → FleetOk n rs → (n : Int) ≤ m → Kept n rs → Q v H'
theorem df_law_fleet (T : Here K mg "_law_fleet" s_law_fleet) (B : Blt mg) (D_law_taken : Df P w K mg base CX0 "_law_taken" 1 p_law_taken (sp_law_taken K)) : Df P w K mg base CX0 "_law_fleet" 2 p_law_fleet (sp_law_fleet K) := by
  refine T.df sc_law_fleet (fun _ _ _ _ _ _ us hl => match us, hl with | [_, _], _ => rfl) (fun vs H Q E h => by obtain ⟨_, _, _, _, rfl, _⟩ := h; rfl) (fun f cdv A outer s H vs Q E hr h => ?_)
  obtain ⟨a, sc, ns, m, rfl, hrow, hm1, hm8, q⟩ := h
  refine ⟨_, pss_cons (ps_set (i := 2) sc_law_fleet.nd rfl (by first | exact Or.inl rfl | exact Or.inr rfl) (pe_op op_add (pe_int) (D_law_taken.call (hr.mono (by decide)) (by rfl) (pa_cons (pv 0) (pa_cons (pv 1) pa_nil)))))
      (pss_cons (ps_set (i := 3) sc_law_fleet.nd rfl (by first | exact Or.inl rfl | exact Or.inr rfl) (pe_ix (ixL K rfl) (pe_lst (pa_cons (pe_int) (pa_cons (pe_int) (pa_cons (pe_int) pa_nil)))) (D_law_taken.call (hr.mono (by decide)) (by rfl) (pa_cons (pv 0) (pa_cons (pe_int) pa_nil))) (fun _ _ => rfl)))
      (pss_cons (ps_setLc (i := 4) (own := [("_law_barge", 5)]) rfl sc_law_fleet.nd rfl rfl (sw_true rfl rfl rfl (by decide +kernel)) (pi_range1 (by rfl) B.range (pa_cons (pv 2) pa_nil)) (blkOk_by (N := n_law_fleet) (sc := defScope s_law_fleet) (by decide +kernel)) (fun _ _ _ _ _ => pg_name (i := 5) sc_law_fleet.nd rfl (by first | exact Or.inl rfl | exact Or.inr rfl)) (fun _ _ _ _ _ => pts_nil) (fun _ _ _ _ _ => pe_op op_mul (pv 3) (D_law_taken.call (hr.mono (by decide)) (by rfl) (pa_cons (pv 0) (pa_cons (pe_int) pa_nil)))))
      (pss_cons (ps_set (i := 6) sc_law_fleet.nd rfl (by first | exact Or.inl rfl | exact Or.inr rfl) (pe_lst (pa_nil)))
      (pss_cons (ps_for PassesOwn.never rfl (pi_range1 (by rfl) B.range (pa_cons (D_law_taken.call (hr.mono (by decide)) (by rfl) (pa_cons (pv 0) (pa_cons (pe_op op_mul (pe_int) (pv 2)) pa_nil))) pa_nil)) (pg_name (i := 7) sc_law_fleet.nd rfl (by first | exact Or.inl rfl | exact Or.inr rfl)) (pss_cons (ps_par (i := 8) (j := 9) rfl sc_law_fleet.nd rfl rfl (by decide) rfl rfl (pa_cons (D_law_taken.call (hr.mono (by decide)) (by rfl) (pa_cons (pv 0) (pa_cons (pv 2) pa_nil))) (pa_cons (D_law_taken.call (hr.mono (by decide)) (by rfl) (pa_cons (pv 0) (pa_cons (pv 2) pa_nil))) pa_nil)) (by rfl))
      (pss_one (ps_if (pt_cmpR op_ne (pv 8) (pv 9) (nomark _)) (pss_cons (ps_set (i := 10) sc_law_fleet.nd rfl (by first | exact Or.inl rfl | exact Or.inr rfl) (pe_op op_cat (pe_lst (pa_cons (pe_int) (pa_cons (pe_int) (pa_cons (pe_int) (pa_cons (pe_int) (pa_cons (D_law_taken.call (hr.mono (by decide)) (by rfl) (pa_cons (pv 0) (pa_cons (pe_int) pa_nil))) pa_nil)))))) (pe_op op_rep (pe_lst (pa_cons (pe_op op_add (pe_int) (D_law_taken.call (hr.mono (by decide)) (by rfl) (pa_cons (pv 0) (pa_cons (pe_int) pa_nil)))) pa_nil)) (pe_callTy call_int1 (by rfl) B.int (by decide +kernel) (pa_cons (pe_cmpR op_eq (pv 3) (pe_int) (nomark _)) pa_nil)))))
      (pss_cons (ps_set (i := 11) sc_law_fleet.nd rfl (by first | exact Or.inl rfl | exact Or.inr rfl) (pe_ix (ixL K rfl) (pv 10) (D_law_taken.call (hr.mono (by decide)) (by rfl) (pa_cons (pv 0) (pa_cons (pe_callB (lenQ K rfl) (by rfl) B.len (by decide +kernel) (pa_cons (pv 10) pa_nil)) pa_nil))) (fun _ _ => rfl)))
      (pss_cons (ps_expr (pe_bm PySem.F.plainAttrs_list PySem.F.slot_list_append PySem.F.type_list_append mt_append (pv 6) (pa_cons (pe_tup (pa_cons (pv 8) (pa_cons (pv 9) (pa_cons (pe_op op_add (pe_op op_sub (pe_ix (ixL K rfl) (pv 4) (pv 8) (fun _ _ => rfl)) (pe_ix (ixL K rfl) (pv 4) (pv 9) (fun _ _ => rfl))) (pv 11)) pa_nil)))) pa_nil)))
      (pss_one (ps_if (pt_cmpR op_eq (D_law_taken.call (hr.mono (by decide)) (by rfl) (pa_cons (pv 0) (pa_cons (pe_int) pa_nil))) (pe_int) (nomark _)) (pss_one (ps_expr (pe_bm PySem.F.plainAttrs_list PySem.F.slot_list_append PySem.F.type_list_append mt_append (pv 6) (pa_cons (pe_tup (pa_cons (pv 9) (pa_cons (pv 8) (pa_cons (pe_op op_add (pe_op op_sub (pe_ix (ixL K rfl) (pv 4) (pv 9) (fun _ _ => rfl)) (pe_ix (ixL K rfl) (pv 4) (pv 8) (fun _ _ => rfl))) (pe_op op_mul (pv 11) (D_law_taken.call (hr.mono (by decide)) (by rfl) (pa_cons (pv 0) (pa_cons (pe_int) pa_nil))))) pa_nil)))) pa_nil)))) (pss_nil)))))) (pss_nil)))))
      (pss_one (ps_ret (pe_tup (pa_cons (pv 2) (pa_cons (pe_callTy (tupleOf K rfl) (by rfl) B.tuple (by decide +kernel) (pa_cons (pe_slice (slL K rfl) (pv 6) po_none (po_some (pe_int))) pa_nil)) pa_nil))))))))), ?_⟩
  walk_at "rd"
  refine ⟨a, sc, ns, m, rfl, hrow, hm1, by omega, fun r0 H1 hr0 hr0m row1 b1 => ?_⟩
  obtain ⟨n, hn⟩ : ∃ n : Nat, (1 + r0 : Int) = n := ⟨(1 + r0).toNat, by omega⟩
  walk_at "rd"
  rw [hn]
  refine ⟨(by show 3 ≤ sizeLine; decide), fun l1 hl1 => ?_⟩
  have s1 := same_upd (o := .lst [.int 1, .int 1, .int 8]) hl1
  refine ⟨a, sc, ns, 3, rfl, row1.mono s1, by omega, by omega, fun r1 H2 hr1 hr1m row2 b2 => ?_⟩
  have hL1 := b2 _ _ (row1.ne hl1) (upd_same (H := H1) (a := l1) (o := .lst [.int 1, .int 1, .int 8]))
  obtain ⟨fc, hfc, hfc2⟩ : ∃ fc : Int, atI [V.int 1, .int 1, .int 8] r1 = some (.int fc) ∧ (fc = 1 ∨ fc = 8) := by
    have : r1 = 0 ∨ r1 = 1 ∨ r1 = 2 := by omega
    rcases this with rfl | rfl | rfl
    · exact ⟨1, rfl, .inl rfl⟩
    · exact ⟨1, rfl, .inl rfl⟩
    · exact ⟨8, rfl, .inr rfl⟩
  refine ⟨l1, _, r1, .int fc, rfl, rfl, .of hL1, hfc, ?_⟩
  have b02 : But a H H2 := (b1.trans (same_but s1)).trans b2
  clear hL1 hl1 s1 b2 row1 b1 hfc
  walk_at "rd"
  refine ⟨by omega, by omega, fun D hD => ?_⟩
  have nDa := row2.ne hD
  refine lcRange (fun i H' => ∃ pl : List Int, pl.length = i ∧ H' D = some (.lst (pl.map V.int)) ∧ RowAt K H' a sc ns ∧ But a H2 H' ∧ ∀ x ∈ pl, 0 ≤ x ∧ x ≤ 11 * fc)
    ⟨[], rfl, upd_same, row2.mono (same_upd hD), same_but (same_upd hD), fun x h => (by cases h)⟩ (fun i H' hi hPv => ?_) (fun H3 hPv => ?_)
  · obtain ⟨pl, e1, e2, e3, e4, e5⟩ := hPv
    walk_at "rd"
    refine ⟨a, sc, ns, 12, rfl, e3, by omega, by omega, fun r H4 h0 h1 row4 b4 => ?_⟩
    walk_at "rd"
    have hD4 := b4 _ _ nDa e2
    refine ⟨.inl (by rcases hfc2 with rfl | rfl <;> omega), _, hD4, by rw [List.length_map, e1]; exact Nat.lt_of_lt_of_le hi (Nat.le_trans (by omega) (show 100 ≤ sizeLine by decide)), pl ++ [fc * r], ?_, ?_, ?_, ?_, ?_⟩
    · rw [List.length_append, e1]
      rfl
    · rw [upd_same, List.map_append]
      rfl
    · exact row2.put hD (e4.trans b4) row4
    · exact (e4.trans b4).put hD
    · intro x hx
      rcases List.mem_append.mp hx with hx | hx
      · exact e5 x hx
      · cases List.mem_singleton.mp hx
        rcases hfc2 with rfl | rfl <;> omega
  · obtain ⟨pl, e1, e2, row3, e4, e5⟩ := hPv
    have b03 := b02.trans e4
    clear b02 e4 row2 hD
    walk_at "rd"
    refine ⟨Nat.zero_le _, fun L hL => ?_⟩
    have nLa := row3.ne hL
    have nDL : D ≠ L := ne_of_none e2 hL
    have sL := same_upd (o := .lst []) hL
    refine ⟨.inl ⟨by omega, by omega⟩, a, sc, ns, _, rfl, row3.mono sL, by omega, by omega, fun r2 H4 h20 h21 row4 b4 => ?_⟩
    have b34 : But a H3 H4 := (same_but sL).trans b4
    have hL4 := b4 _ _ nLa (upd_same (H := H3) (a := L) (o := .lst []))
    walk_at "rd"
    refine ⟨by omega, by omega, ?_⟩
    have hplb := places_bound e5 (by rcases hfc2 with rfl | rfl <;> omega)
    have hsz : 100 ≤ sizeLine := by decide
    refine forRange (fun k σ H' => ∃ x5 x7 x8 x9 x10 x11, σ = [some (.ref a), some (.int m), some (.int n), some (.int fc), some (.ref D), x5, some (.ref L), x7, x8, x9, x10, x11] ∧
        ∃ xs rs, FlS K a sc ns H3 L H' xs rs ∧ rs.length ≤ 2 * k ∧ ∀ r ∈ rs, RopeOk n r ∧ HoldsR (fun i => pl.getD i 0) r) ⟨_, _, _, _, _, _, rfl, [], [], ⟨row4, b34, hL4, ⟨rfl, fun i r h => (by cases h)⟩⟩, Nat.zero_le _, fun r h => (by cases h)⟩ (fun k σ H' hk hPv => ?_) (fun σ H' hPv => ?_)
    · obtain ⟨x5, x7, x8, x9, x10, x11, rfl, xs, rs, S, hlen, hrs⟩ := hPv
      have hk24 : k < 24 := by omega
      walk_at "rd"
      refine ⟨a, sc, ns, _, rfl, S.row, by omega, by omega, fun fr H5 f0 f1 row5 b5 => ?_⟩
      have S := S.call nLa row5 b5
      walk_at "rd"
      refine ⟨a, sc, ns, _, rfl, S.row, by omega, by omega, fun re H6 g0 g1 row6 b6 => ?_⟩
      have S := S.call nLa row6 b6
      obtain ⟨fr, rfl⟩ := nat_at f0
      obtain ⟨re, rfl⟩ := nat_at g0
      walk_at "rd"
      refine ⟨_, _, ⟨rfl, rfl⟩, ?_⟩
      walk_at "rd"
      refine ⟨rfl, ?_⟩
      by_cases hfr : (fr : Int) = (re : Int)
      · simp only [hfr, decide_true, Bool.not_true, Bool.false_eq_true, ite_false]
        exact ⟨_, _, _, _, _, _, ⟨rfl, rfl, rfl, rfl, rfl, rfl⟩, xs, rs, S, by omega, hrs⟩
      · simp only [hfr, decide_false, Bool.not_false, ite_true]
        refine ⟨a, sc, ns, _, rfl, S.row, by omega, by omega, fun c1 H7 c10 c11 row7 b7 => ?_⟩
        have S := S.call nLa row7 b7
        walk_at "rd"
        refine ⟨(by show 5 ≤ sizeLine; omega), fun l5 hl5 => ?_⟩
        have S := S.new (same_upd (o := .lst [.int 0, .int 0, .int 1, .int 3, .int c1]) hl5)
        have n5 := row7.ne hl5
        refine ⟨a, sc, ns, _, rfl, S.row, by omega, by omega, fun c2 H8 c20 c21 row8 b8 => ?_⟩
        have S := S.call nLa row8 b8
        have h5 := b8 _ _ n5 (upd_same (H := H7) (a := l5) (o := .lst [.int 0, .int 0, .int 1, .int 3, .int c1]))
        walk_at "rd"
        refine ⟨by show 1 ≤ sizeLine; omega, fun l1 hl1 => ?_⟩
        have S := S.new (same_upd (o := .lst [.int (40 + c2)]) hl1)
        have h5 := same_upd (o := .lst [.int (40 + c2)]) hl1 _ _ h5
        obtain ⟨kk, hkk, hkk2⟩ : ∃ kk : Nat, (if decide (fc = 1) = true then (1 : Int) else 0) = kk ∧ (kk = 0 ∨ kk = 1 ∧ fc = 1) := by
          rcases hfc2 with rfl | rfl
          · exact ⟨1, rfl, .inr ⟨rfl, rfl⟩⟩
          · exact ⟨0, rfl, .inl rfl⟩
        rw [hkk]
        refine ⟨rfl, l1, kk, _, rfl, rfl, upd_same, by omega, by omega, ?_, fun l2 hl2 => ?_⟩
        · show 1 * (kk : Int).toNat ≤ sizeLine
          omega
        have S := S.new (same_upd (o := .lst (List.replicate (kk : Int).toNat [V.int (40 + c2)]).flatten) hl2)
        have h5 := same_upd (o := .lst (List.replicate (kk : Int).toNat [V.int (40 + c2)]).flatten) hl2 _ _ h5
        obtain ⟨ms, hms, hml, hmb⟩ : ∃ ms : List Int, ([.int 0, .int 0, .int 1, .int 3, .int c1] ++ (List.replicate (kk : Int).toNat [V.int (40 + c2)]).flatten : List V) = ms.map V.int ∧ 1 ≤ ms.length ∧ ∀ i, 0 ≤ ms.getD i 0 ∧ 11 * fc + ms.getD i 0 ≤ 99 := by
          rcases hkk2 with rfl | ⟨rfl, rfl⟩
          · refine ⟨[0, 0, 1, 3, c1], rfl, by show 1 ≤ 5; omega, fun i => ?_⟩
            match i with
            | 0 => exact ⟨by show (0 : Int) ≤ 0; omega, by show 11 * fc + 0 ≤ 99; rcases hfc2 with rfl | rfl <;> omega⟩
            | 1 => exact ⟨by show (0 : Int) ≤ 0; omega, by show 11 * fc + 0 ≤ 99; rcases hfc2 with rfl | rfl <;> omega⟩
            | 2 => exact ⟨by show (0 : Int) ≤ 1; omega, by show 11 * fc + 1 ≤ 99; rcases hfc2 with rfl | rfl <;> omega⟩
            | 3 => exact ⟨by show (0 : Int) ≤ 3; omega, by show 11 * fc + 3 ≤ 99; rcases hfc2 with rfl | rfl <;> omega⟩
            | 4 => exact ⟨c10, by show 11 * fc + c1 ≤ 99; rcases hfc2 with rfl | rfl <;> omega⟩
            | k + 5 => exact ⟨by show (0 : Int) ≤ 0; omega, by show 11 * fc + 0 ≤ 99; rcases hfc2 with rfl | rfl <;> omega⟩
          · refine ⟨[0, 0, 1, 3, c1, 40 + c2], rfl, by show 1 ≤ 6; omega, fun i => ?_⟩
            match i with
            | 0 => exact ⟨by show (0 : Int) ≤ 0; omega, by show (11 : Int) * 1 + 0 ≤ 99; omega⟩
            | 1 => exact ⟨by show (0 : Int) ≤ 0; omega, by show (11 : Int) * 1 + 0 ≤ 99; omega⟩
            | 2 => exact ⟨by show (0 : Int) ≤ 1; omega, by show (11 : Int) * 1 + 1 ≤ 99; omega⟩
            | 3 => exact ⟨by show (0 : Int) ≤ 3; omega, by show (11 : Int) * 1 + 3 ≤ 99; omega⟩
            | 4 => exact ⟨c10, by show (11 : Int) * 1 + c1 ≤ 99; omega⟩
            | 5 => exact ⟨by show (0 : Int) ≤ 40 + c2; omega, by show (11 : Int) * 1 + (40 + c2) ≤ 99; omega⟩
            | k + 6 => exact ⟨by show (0 : Int) ≤ 0; omega, by show (11 : Int) * 1 + 0 ≤ 99; omega⟩
        have hml6 : ms.length ≤ 6 := by
          have e := congrArg List.length hms
          rw [List.length_append, List.length_map] at e
          have : ((List.replicate (kk : Int).toNat [V.int (40 + c2)]).flatten).length ≤ 1 := by
            rcases hkk2 with rfl | ⟨rfl, _⟩
            · exact Nat.zero_le 1
            · exact Nat.le_refl 1
          simp only [List.length_cons, List.length_nil] at e
          omega
        refine ⟨l5, l2, _, _, rfl, rfl, h5, upd_same, ?_, fun l6 hl6 => ?_⟩
        · rw [← List.length_append, hms, List.length_map]
          omega
        rw [hms]
        have n6 := S.row.ne hl6
        have S := S.new (same_upd (o := .lst (ms.map V.int)) hl6)
        walk_at "rd"
        refine ⟨_, .inl (.of upd_same), ?_⟩
        rw [List.length_map]
        refine ⟨a, sc, ns, _, rfl, S.row, by omega, by omega, fun ix H9 ix0 ix1 row9 b9 => ?_⟩
        have S := S.call nLa row9 b9
        have h6 := b9 _ _ n6 upd_same
        obtain ⟨ix, rfl⟩ := nat_at ix0
        refine ⟨l6, _, ix, _, rfl, rfl, .of h6, atI_nat (at_ints (by omega)), ?_⟩
        obtain ⟨hmo0, hmo1⟩ := hmb ix
        generalize ms.getD ix 0 = mo at hmo0 hmo1
        have hD9 := S.but _ _ nDa e2
        obtain ⟨pf0, pf1⟩ := hplb fr
        obtain ⟨pr0, pr1⟩ := hplb re
        generalize hpf : pl.getD fr 0 = pf at pf0 pf1
        generalize hpr : pl.getD re 0 = pr at pr0 pr1
        walk_at "rd"
        refine ⟨.inl ⟨rfl, _, .of S.lst⟩, D, _, fr, .int pf, rfl, rfl, .of hD9, atI_nat (by rw [← hpf]; exact at_ints (by omega)), D, _, re, .int pr, rfl, rfl, .of hD9, atI_nat (by rw [← hpr]; exact at_ints (by omega)), ?_⟩
        walk_at "rd"
        refine ⟨by show 3 ≤ sizeLine; omega, fun T1 hT1 => ?_⟩
        have S := S.new (same_upd (o := .tup [.int fr, .int re, .int (pf - pr + mo)]) hT1)
        have hD10 := same_upd (o := .tup [.int fr, .int re, .int (pf - pr + mo)]) hT1 _ _ hD9
        have ok1 : RopeOk n ⟨fr, re, pf - pr + mo⟩ ∧ HoldsR (fun i => pl.getD i 0) ⟨fr, re, pf - pr + mo⟩ := by
          refine ⟨⟨f0, f1, g0, g1, hfr, ?_, ?_⟩, ?_⟩
          · show -99 ≤ pf - pr + mo
            rcases hfc2 with rfl | rfl <;> omega
          · show pf - pr + mo ≤ 99
            rcases hfc2 with rfl | rfl <;> omega
          · unfold HoldsR
            show pl.getD (fr : Int).toNat 0 - pl.getD (re : Int).toNat 0 ≤ pf - pr + mo
            rw [Int.toNat_natCast, Int.toNat_natCast, hpf, hpr]
            omega
        refine ⟨L, _, _, rfl, rfl, S.lst, by rw [S.rx.1]; omega, ?_⟩
        have S := FlS.app (r := ⟨fr, re, pf - pr + mo⟩) S hL row3 upd_same
        have hD10 : (upd _ L (.lst (xs ++ [V.ref T1]))) D = _ := (upd_ne nDL).trans hD10
        refine ⟨a, sc, ns, 3, rfl, S.row, by omega, by omega, fun c3 H11 c30 c31 row11 b11 => ?_⟩
        have S := S.call nLa row11 b11
        have hD11 := b11 _ _ nDa hD10
        have hrs2 : ∀ r ∈ rs ++ [⟨fr, re, pf - pr + mo⟩], RopeOk n r ∧ HoldsR (fun i => pl.getD i 0) r := fun r hr => by
          rcases List.mem_append.mp hr with hr | hr
          · exact hrs r hr
          · cases List.mem_singleton.mp hr
            exact ok1
        have hlen2 : (rs ++ [(⟨fr, re, pf - pr + mo⟩ : Rope)]).length ≤ 2 * k + 1 := by
          rw [List.length_append, List.length_singleton]
          omega
        generalize rs ++ [(⟨fr, re, pf - pr + mo⟩ : Rope)] = rs2 at S hrs2 hlen2
        generalize xs ++ [V.ref T1] = xs2 at S
        walk_at "rd"
        refine ⟨rfl, ?_⟩
        by_cases hc3 : c3 = 0
        · simp only [hc3, decide_true, ite_true]
          refine ⟨.inl ⟨rfl, _, .of S.lst⟩, D, _, re, .int pr, rfl, rfl, .of hD11, atI_nat (by rw [← hpr]; exact at_ints (by omega)), D, _, fr, .int pf, rfl, rfl, .of hD11, atI_nat (by rw [← hpf]; exact at_ints (by omega)), ?_⟩
          walk_at "rd"
          refine ⟨a, sc, ns, 2, rfl, S.row, by omega, by omega, fun c4 H12 c40 c41 row12 b12 => ?_⟩
          have S := S.call nLa row12 b12
          have hmc : 0 ≤ mo * c4 ∧ mo * c4 ≤ mo := by
            have : c4 = 0 ∨ c4 = 1 := by omega
            rcases this with rfl | rfl <;> omega
          walk_at "rd"
          refine ⟨.inl (by rcases hfc2 with rfl | rfl <;> omega), by show 3 ≤ sizeLine; omega, fun T2 hT2 => ?_⟩
          generalize mo * c4 = mc at hmc
          have S := S.new (same_upd (o := .tup [.int re, .int fr, .int (pr - pf + mc)]) hT2)
          have ok2 : RopeOk n ⟨re, fr, pr - pf + mc⟩ ∧ HoldsR (fun i => pl.getD i 0) ⟨re, fr, pr - pf + mc⟩ := by
            refine ⟨⟨g0, g1, f0, f1, Ne.symm hfr, ?_, ?_⟩, ?_⟩
            · show -99 ≤ pr - pf + mc
              rcases hfc2 with rfl | rfl <;> omega
            · show pr - pf + mc ≤ 99
              rcases hfc2 with rfl | rfl <;> omega
            · unfold HoldsR
              show pl.getD (re : Int).toNat 0 - pl.getD (fr : Int).toNat 0 ≤ pr - pf + mc
              rw [Int.toNat_natCast, Int.toNat_natCast, hpf, hpr]
              omega
          refine ⟨L, _, _, rfl, rfl, S.lst, by rw [S.rx.1]; omega, ?_⟩
          have S := FlS.app (r := ⟨re, fr, pr - pf + mc⟩) S hL row3 upd_same
          refine ⟨_, _, _, _, _, _, ⟨rfl, rfl, rfl, rfl, rfl, rfl⟩, _, _, S, by rw [List.length_append, List.length_singleton]; omega, fun r hr => ?_⟩
          rcases List.mem_append.mp hr with hr | hr
          · exact hrs2 r hr
          · cases List.mem_singleton.mp hr
            exact ok2
        · simp only [hc3, decide_false, Bool.false_eq_true, ite_false]
          exact ⟨_, _, _, _, _, _, ⟨rfl, rfl, rfl, rfl, rfl, rfl⟩, _, _, S, by omega, hrs2⟩
    · obtain ⟨x5, x7, x8, x9, x10, x11, rfl, xs, rs, S, hlen, hrs⟩ := hPv
      walk_at "rd"
      refine ⟨L, _, rfl, .of S.lst, fun l7 hl7 => ?_⟩
      have S := S.new (same_upd (o := .lst (cutV xs none (some 40))) hl7)
      have ecut : cutV xs none (some 40) = xs.take 40 := by
        unfold cutV
        rw [HT.sIx_none, show HT.sIx xs.length xs.length (some (40 : Int)) = min 40 xs.length from HT.sIx_nat _ _ 40]
        show (List.drop 0 xs).take (min 40 xs.length - 0) = _
        rw [List.drop_zero, Nat.sub_zero]
        by_cases h : 40 ≤ xs.length
        · rw [Nat.min_eq_left h]
        · rw [Nat.min_eq_right (by omega), List.take_of_length_le (Nat.le_refl _), List.take_of_length_le (by omega)]
      walk_at "rd"
      refine ⟨_, .inl ⟨.of upd_same, fun t1 ht1 => ?_⟩⟩
      have e1 := same_upd (o := .tup (cutV xs none (some 40))) ht1
      have S := S.new e1
      walk_at "rd"
      refine ⟨by show 2 ≤ sizeLine; omega, fun t2 ht2 => ?_⟩
      have e2' := same_upd (o := .tup [.int n, .ref t1]) ht2
      have S := S.new e2'
      have RX := S.rx.take 40
      refine q _ _ n (rs.take 40) S.row (b03.trans S.but) ⟨t2, t1, xs.take 40, rfl, .of upd_same, ?_, RX.1, RX.2⟩ ⟨by omega, by omega, ?_, fun r hr => (hrs r (List.mem_of_mem_take hr)).1⟩ (by omega) ⟨fun i => pl.getD i 0, fun i => ?_, fun r hr => (hrs r (List.mem_of_mem_take hr)).2⟩
      · rw [← ecut]
        exact sqt_same e2' (.of upd_same)
      · rw [List.length_take]
        exact Nat.min_le_left _ _
      · obtain ⟨h1, h2⟩ := hplb i
        exact ⟨h1, by show pl.getD i 0 ≤ 88; rcases hfc2 with rfl | rfl <;> omega⟩
end
end Hx

set_option Elab.async false
set_option linter.all false
set_option maxRecDepth 100000
set_option maxHeartbeats 4000000
namespace Hx
open PySem PySem.Spec PyProof.Rows L2
abbrev gd (c : List Int) (i : Nat) : Int := c.getD i 0
theorem gd_set (c : List Int) {g : Nat} (v : Int) (h : g < c.length) (i : Nat) : gd (c.set g v) i = if i = g then v else gd c i := by
  unfold gd
  rw [List.getD_eq_getElem?_getD, List.getElem?_set]
  by_cases e : g = i
  · subst e
    rw [if_pos rfl, if_pos h, if_pos rfl]
    rfl
  · rw [if_neg e, if_neg (fun z => e z.symm), List.getD_eq_getElem?_getD]
theorem gd_move (d : Tab) (xs : List Int) (b : Nat) (p : Int) {o : Nat} (h : o < xs.length) : gd (moveD d xs b p) o = mv1 (d b o) (gd xs o) p := by
  unfold gd
  rw [List.getD_eq_getElem?_getD, moveD_at d xs b p h]
  rfl
theorem mv1_ge (l : Option Int) (x p : Int) : x ≤ mv1 l x p := by
  cases l with
  | none => exact Int.le_refl x
  | some l =>
    show x ≤ if p - l > x then p - l else x
    split <;> omega
theorem mv1_some (l x p : Int) : p - l ≤ mv1 (some l) x p := by
  show p - l ≤ if p - l > x then p - l else x
  split <;> omega
theorem mv1_le {l : Option Int} {x p y : Int} (h : x ≤ y) (h2 : ∀ a, l = some a → p - a ≤ y) : mv1 l x p ≤ y := by
  cases l with
  | none => exact h
  | some a =>
    have := h2 a rfl
    show (if p - a > x then p - a else x) ≤ y
    split <;> omega
/-- what a fleet is worth, for the tables -/
structure Fit (n : Nat) (rs : List Rope) : Prop where
  ok : ∀ r ∈ rs, RopeOk n r
  diag : Diag n (chainTab n rs)
  closed : Closed n (chainTab n rs) n
theorem Fit.of {n : Nat} {rs : List Rope} (ok : ∀ r ∈ rs, RopeOk n r) {x : Nat → Int} (h : ∀ r ∈ rs, HoldsR x r) : Fit n rs :=
  ⟨ok, (chain_good h).1, (chain_good h).2⟩
theorem RopeOk.ix {n : Nat} {r : Rope} (h : RopeOk n r) : r.f.toNat < n ∧ r.r.toNat < n := by
  obtain ⟨h1, h2, h3, h4, _⟩ := h
  omega
theorem move_valid {n : Nat} {rs : List Rope} (F : Fit n rs) {xs : List Int} (hl : xs.length = n) (hv : Valid xs rs) {b : Nat} (hb : b < n) (p : Int) : Valid (moveD (chainTab n rs) xs b p) rs := fun r hr => by
  obtain ⟨hf, hg⟩ := (F.ok r hr).ix
  have h0 := hv r hr
  unfold Holds1 at h0 ⊢
  show gd _ _ - gd _ _ ≤ _
  rw [gd_move _ _ _ _ (by omega), gd_move _ _ _ _ (by omega)]
  have hg1 := mv1_ge (chainTab n rs b r.r.toNat) (gd xs r.r.toNat) p
  have h0 : gd xs r.f.toNat - gd xs r.r.toNat ≤ r.l := h0
  have key : mv1 (chainTab n rs b r.f.toNat) (gd xs r.f.toNat) p ≤ mv1 (chainTab n rs b r.r.toNat) (gd xs r.r.toNat) p + r.l := by
    refine mv1_le (by omega) fun a ea => ?_
    obtain ⟨z, ez, hz⟩ := chain_rope (n := n) hr r.l rfl
    obtain ⟨y, ey, hy⟩ := F.closed r.f.toNat hf b hb r.r.toNat hg a z ea ez _ rfl
    rw [ey]
    have := mv1_some y (gd xs r.r.toNat) p
    omega
  omega
theorem move_least {n : Nat} {rs : List Rope} {xs : List Int} (hl : xs.length = n) {b : Nat} {p : Int} {y : Nat → Int} (hy : ∀ r ∈ rs, HoldsR y r) (h1 : ∀ i, i < n → gd xs i ≤ y i) (h2 : p ≤ y b) :
    ∀ i, i < n → gd (moveD (chainTab n rs) xs b p) i ≤ y i := fun i hi => by
  rw [gd_move _ _ _ _ (by omega)]
  refine mv1_le (h1 i hi) fun a ea => ?_
  have := sound_chain (n := n) hy b i a ea
  omega
theorem move_ge (d : Tab) (xs : List Int) (b : Nat) (p : Int) {i : Nat} (h : i < xs.length) : gd xs i ≤ gd (moveD d xs b p) i := by
  rw [gd_move _ _ _ _ h]
  exact mv1_ge _ _ _
theorem move_at {n : Nat} {rs : List Rope} (F : Fit n rs) {xs : List Int} (hl : xs.length = n) {b : Nat} (hb : b < n) (p : Int) : p ≤ gd (moveD (chainTab n rs) xs b p) b := by
  rw [gd_move _ _ _ _ (by omega), F.diag b hb]
  have := mv1_some 0 (gd xs b) p
  omega
theorem leastD_none {d : Tab} {ws : List (Option Int)} {xs : List Int} {k : Nat} (h : ws.getD k none = none) : leastD d ws xs (k + 1) = leastD d ws xs k := by
  rw [leastD_succ, h]
theorem leastD_mv {d : Tab} {ws : List (Option Int)} {xs : List Int} {k : Nat} {u : Int} (h : ws.getD k none = some u) (h2 : gd (leastD d ws xs k) k < u) : leastD d ws xs (k + 1) = moveD d (leastD d ws xs k) k u := by
  rw [leastD_succ, h]
  exact if_pos h2
theorem leastD_st {d : Tab} {ws : List (Option Int)} {xs : List Int} {k : Nat} {u : Int} (h : ws.getD k none = some u) (h2 : ¬ gd (leastD d ws xs k) k < u) : leastD d ws xs (k + 1) = leastD d ws xs k := by
  rw [leastD_succ, h]
  exact if_neg h2
theorem least_all {n : Nat} {rs : List Rope} (F : Fit n rs) {xs : List Int} (hl : xs.length = n) (hv : Valid xs rs) (ws : List (Option Int)) : ∀ k, k ≤ n →
    Valid (leastD (chainTab n rs) ws xs k) rs ∧ (∀ i, i < n → gd xs i ≤ gd (leastD (chainTab n rs) ws xs k) i) ∧ (∀ i, i < k → ∀ v, ws.getD i none = some v → v ≤ gd (leastD (chainTab n rs) ws xs k) i) ∧
    ∀ y : Nat → Int, (∀ r ∈ rs, HoldsR y r) → (∀ i, i < n → gd xs i ≤ y i) → (∀ i, i < k → ∀ v, ws.getD i none = some v → v ≤ y i) → ∀ i, i < n → gd (leastD (chainTab n rs) ws xs k) i ≤ y i
  | 0, _ => ⟨hv, fun _ _ => Int.le_refl _, fun i hi => absurd hi (Nat.not_lt_zero i), fun y _ h _ => h⟩
  | k + 1, hk => by
    obtain ⟨h1, h2, h3, h4⟩ := least_all F hl hv ws k (by omega)
    have ll := leastD_len (chainTab n rs) ws xs k
    cases hw : ws.getD k none with
    | none =>
      rw [leastD_none hw]
      generalize leastD (chainTab n rs) ws xs k = c at h1 h2 h3 h4 ll
      refine ⟨h1, h2, fun i hi v hv' => ?_, fun y a b e => h4 y a b fun i hi => e i (by omega)⟩
      by_cases hik : i = k
      · subst hik
        rw [hw] at hv'
        cases hv'
      · exact h3 i (by omega) v hv'
    | some u =>
      by_cases hlt : gd (leastD (chainTab n rs) ws xs k) k < u
      · rw [leastD_mv hw hlt]
        generalize leastD (chainTab n rs) ws xs k = c at h1 h2 h3 h4 ll hlt
        refine ⟨move_valid F (by omega) h1 (by omega) u, fun i hi => Int.le_trans (h2 i hi) (move_ge _ _ _ _ (by omega)), fun i hi v hv' => ?_, fun y a b e => ?_⟩
        · by_cases hik : i = k
          · subst hik
            rw [hw] at hv'
            cases hv'
            exact move_at F (by omega) (by omega) u
          · exact Int.le_trans (h3 i (by omega) v hv') (move_ge _ _ _ _ (by omega))
        · exact move_least (by omega) a (h4 y a b fun i hi => e i (by omega)) (e k (by omega) u hw)
      · rw [leastD_st hw hlt]
        generalize leastD (chainTab n rs) ws xs k = c at h1 h2 h3 h4 ll hlt
        refine ⟨h1, h2, fun i hi v hv' => ?_, fun y a b e => h4 y a b fun i hi => e i (by omega)⟩
        by_cases hik : i = k
        · subst hik
          rw [hw] at hv'
          cases hv'
          omega
        · exact h3 i (by omega) v hv'
/-! settling, rope by rope -/
theorem gd_settle1 (c : List Int) {n : Nat} (hl : c.length = n) {r : Rope} (h : RopeOk n r) (i : Nat) : gd (settle1 c r) i = if i = r.r.toNat then max (gd c r.r.toNat) (gd c r.f.toNat - r.l) else gd c i := by
  unfold settle1
  rw [gd_set _ _ (by rw [hl]; exact h.ix.2)]
  by_cases e : i = r.r.toNat
  · rw [if_pos e, if_pos e]
    show (if gd c r.f.toNat - r.l > gd c r.r.toNat then gd c r.f.toNat - r.l else gd c r.r.toNat) = _
    split <;> omega
  · rw [if_neg e, if_neg e]
theorem settle1_ge (c : List Int) {n : Nat} (hl : c.length = n) {r : Rope} (h : RopeOk n r) (i : Nat) : gd c i ≤ gd (settle1 c r) i := by
  rw [gd_settle1 c hl h]
  split
  · rename_i e
    rw [e]
    omega
  · exact Int.le_refl _
theorem settleR_ge {n : Nat} : ∀ (rs : List Rope) (c : List Int), c.length = n → (∀ r ∈ rs, RopeOk n r) → ∀ i, gd c i ≤ gd (settleR rs c) i
  | [], _, _, _, _ => Int.le_refl _
  | r :: rs, c, hl, h, i => Int.le_trans (settle1_ge c hl (h r List.mem_cons_self) i) (settleR_ge rs (settle1 c r) (by rw [settle1_len]; exact hl) (fun q hq => h q (List.mem_cons_of_mem _ hq)) i)
theorem settleR_rope {n : Nat} : ∀ (rs : List Rope) (c : List Int), c.length = n → (∀ r ∈ rs, RopeOk n r) → ∀ r ∈ rs, gd c r.f.toNat - r.l ≤ gd (settleR rs c) r.r.toNat
  | [], _, _, _, _, h => by cases h
  | q :: rs, c, hl, h, r, hr => by
    have hq := h q List.mem_cons_self
    have ht := fun z (hz : z ∈ rs) => h z (List.mem_cons_of_mem _ hz)
    have hl' : (settle1 c q).length = n := by rw [settle1_len]; exact hl
    rcases List.mem_cons.mp hr with e | hr
    · subst e
      refine Int.le_trans ?_ (settleR_ge rs (settle1 c r) hl' ht _)
      rw [gd_settle1 c hl hq, if_pos rfl]
      omega
    · have a := settleR_rope rs (settle1 c q) hl' ht r hr
      have b := settle1_ge c hl hq r.f.toNat
      show _ ≤ gd (settleR rs (settle1 c q)) _
      omega
theorem settleR_le {n : Nat} {y : Nat → Int} : ∀ (rs : List Rope) (c : List Int), c.length = n → (∀ r ∈ rs, RopeOk n r) → (∀ r ∈ rs, HoldsR y r) → (∀ i, i < n → gd c i ≤ y i) → ∀ i, i < n → gd (settleR rs c) i ≤ y i
  | [], _, _, _, _, h => h
  | r :: rs, c, hl, h, hy, hc => settleR_le rs (settle1 c r) (by rw [settle1_len]; exact hl) (fun q hq => h q (List.mem_cons_of_mem _ hq)) (fun q hq => hy q (List.mem_cons_of_mem _ hq)) fun i hi => by
    have hr := h r List.mem_cons_self
    have h1 := hy r List.mem_cons_self
    unfold HoldsR at h1
    have h2 := hc _ hr.ix.1
    rw [gd_settle1 c hl hr]
    split
    · rename_i e
      have h3 := hc i hi
      rw [e] at h3 ⊢
      omega
    · exact hc i hi
/-- barges that are not yet at y -/
def low (n : Nat) (c : List Int) (y : Nat → Int) : List Nat := (List.range n).filter fun i => decide (gd c i < y i)
theorem filter_lt {α : Type} (p q : α → Bool) : ∀ (l : List α), (∀ x ∈ l, q x = true → p x = true) → (l.filter q).length ≤ (l.filter p).length ∧ ((∃ x ∈ l, p x = true ∧ q x = false) → (l.filter q).length < (l.filter p).length)
  | [], _ => ⟨Nat.le_refl 0, fun ⟨_, h, _⟩ => by cases h⟩
  | a :: l, h => by
    obtain ⟨h1, h2⟩ := filter_lt p q l fun x hx => h x (List.mem_cons_of_mem _ hx)
    rw [List.filter_cons, List.filter_cons]
    have ha := h a List.mem_cons_self
    cases hp : p a <;> cases hq : q a
    · simp only [Bool.false_eq_true, if_false]
      refine ⟨h1, fun ⟨x, hx, k1, k2⟩ => ?_⟩
      rcases List.mem_cons.mp hx with e | hx
      · subst e
        rw [hp] at k1
        cases k1
      · exact h2 ⟨x, hx, k1, k2⟩
    · rw [ha hq] at hp
      cases hp
    · simp only [Bool.false_eq_true, if_false, if_true, List.length_cons]
      exact ⟨by omega, fun _ => by omega⟩
    · simp only [if_true, List.length_cons]
      refine ⟨by omega, fun ⟨x, hx, k1, k2⟩ => ?_⟩
      rcases List.mem_cons.mp hx with e | hx
      · subst e
        rw [hq] at k2
        cases k2
      · have := h2 ⟨x, hx, k1, k2⟩
        omega
theorem settle_low {n : Nat} {rs : List Rope} (ok : ∀ r ∈ rs, RopeOk n r) {ws : List Int} {y : Nat → Int} (hy : ∀ r ∈ rs, HoldsR y r)
    (least : ∀ z : Nat → Int, (∀ r ∈ rs, HoldsR z r) → (∀ i, i < n → gd ws i ≤ z i) → ∀ i, i < n → y i ≤ z i) (c : List Int) (hl : c.length = n) (h1 : ∀ i, i < n → gd ws i ≤ gd c i) (h2 : ∀ i, i < n → gd c i ≤ y i) :
    (low n (settleR rs c) y).length ≤ (low n c y).length - 1 := by
  have hsub := filter_lt (fun i => decide (gd c i < y i)) (fun i => decide (gd (settleR rs c) i < y i)) (List.range n) fun i hi q => by
    have := settleR_ge rs c hl ok i
    have q := of_decide_eq_true q
    exact decide_eq_true (by omega)
  by_cases hz : ∃ i ∈ List.range n, decide (gd c i < y i) = true ∧ decide (gd (settleR rs c) i < y i) = false
  · have := hsub.2 hz
    unfold low
    omega
  · by_cases he : ∃ j, j < n ∧ gd c j < y j
    · exfalso
      obtain ⟨j, hj, hjc⟩ := he
      have all : ∀ i, i < n → gd c i < y i → gd (settleR rs c) i < y i := fun i hi q => by
        by_cases k : gd (settleR rs c) i < y i
        · exact k
        · exact absurd ⟨i, List.mem_range.mpr hi, decide_eq_true q, decide_eq_false k⟩ hz
      have := least (fun i => if gd c i < y i then y i - 1 else y i) (fun r hr => ?_) (fun i hi => ?_) j hj
      · simp only [hjc, if_true] at this
        omega
      · obtain ⟨hf, hg⟩ := (ok r hr).ix
        have h0 := hy r hr
        unfold HoldsR at h0 ⊢
        have hf2 := h2 _ hf
        by_cases k1 : gd c r.f.toNat < y r.f.toNat <;> by_cases k2 : gd c r.r.toNat < y r.r.toNat <;> simp only [k1, k2, if_true, if_false]
        · omega
        · omega
        · have := all _ hg k2
          have := settleR_rope rs c hl ok r hr
          omega
        · omega
      · have a := h1 i hi
        show gd ws i ≤ if gd c i < y i then y i - 1 else y i
        have b := h2 i hi
        split <;> omega
    · have e0 : low n (settleR rs c) y = [] := by
        unfold low
        refine List.filter_eq_nil_iff.mpr fun i hi => ?_
        have hi := List.mem_range.mp hi
        have := settleR_ge rs c hl ok i
        have k : ¬ gd c i < y i := fun q => he ⟨i, hi, q⟩
        simpa using (show y i ≤ gd (settleR rs c) i by omega)
      rw [e0]
      exact Nat.zero_le _
theorem settle_is {n : Nat} {rs : List Rope} (ok : ∀ r ∈ rs, RopeOk n r) {ws : List Int} (hw : ws.length = n) {y : Nat → Int} (hy : ∀ r ∈ rs, HoldsR y r) (hwy : ∀ i, i < n → gd ws i ≤ y i)
    (least : ∀ z : Nat → Int, (∀ r ∈ rs, HoldsR z r) → (∀ i, i < n → gd ws i ≤ z i) → ∀ i, i < n → y i ≤ z i) : ∀ k, (low n (settleN rs ws k) y).length ≤ n - k ∧ (∀ i, i < n → gd ws i ≤ gd (settleN rs ws k) i) ∧ ∀ i, i < n → gd (settleN rs ws k) i ≤ y i
  | 0 => by
    refine ⟨?_, fun _ _ => Int.le_refl _, hwy⟩
    unfold low
    have := List.length_filter_le (fun i => decide (gd ws i < y i)) (List.range n)
    rw [List.length_range] at this
    exact this
  | k + 1 => by
    obtain ⟨h1, h2, h3⟩ := settle_is ok hw hy hwy least k
    have hl := settleN_len rs ws k
    rw [hw] at hl
    rw [settleN_succ]
    refine ⟨?_, fun i hi => Int.le_trans (h2 i hi) (settleR_ge rs _ hl ok i), settleR_le rs _ hl ok hy h3⟩
    have := settle_low ok hy least _ hl h2 h3
    omega
theorem shift_le (pl : Nat → Int) (w : Nat → Int) : ∀ n : Nat, ∃ M : Int, ∀ i, i < n → pl i - M ≤ w i
  | 0 => ⟨0, fun i hi => absurd hi (Nat.not_lt_zero i)⟩
  | n + 1 => by
    obtain ⟨M, h⟩ := shift_le pl w n
    refine ⟨max M (pl n - w n), fun i hi => ?_⟩
    by_cases e : i = n
    · subst e
      omega
    · have := h i (by omega)
      omega
/-- settled positions: the least that hold all ropes -/
theorem settle_spec {n : Nat} {rs : List Rope} (ok : ∀ r ∈ rs, RopeOk n r) {pl : Nat → Int} (hp : ∀ r ∈ rs, HoldsR pl r) {ws : List Int} (hw : ws.length = n) :
    Valid (settleN rs ws (n + 1)) rs ∧ (∀ i, i < n → gd ws i ≤ gd (settleN rs ws (n + 1)) i) ∧ ∀ z : Nat → Int, (∀ r ∈ rs, HoldsR z r) → (∀ i, i < n → gd ws i ≤ z i) → ∀ i, i < n → gd (settleN rs ws (n + 1)) i ≤ z i := by
  have F := Fit.of ok hp
  obtain ⟨M, hM⟩ := shift_le pl (gd ws) n
  obtain ⟨x0, hx0⟩ : ∃ x0 : List Int, x0 = (List.range n).map fun i => pl i - M := ⟨_, rfl⟩
  have l0 : x0.length = n := by rw [hx0, List.length_map, List.length_range]
  have g0 : ∀ i, i < n → gd x0 i = pl i - M := fun i hi => by
    unfold gd
    rw [hx0, List.getD_eq_getElem?_getD, List.getElem?_map, List.getElem?_range hi]
    rfl
  have v0 : Valid x0 rs := fun r hr => by
    obtain ⟨hf, hg⟩ := (ok r hr).ix
    have := hp r hr
    unfold HoldsR at this
    unfold Holds1
    show gd x0 _ - gd x0 _ ≤ _
    rw [g0 _ hf, g0 _ hg]
    omega
  obtain ⟨h1, h2, h3, h4⟩ := least_all F l0 v0 (ws.map some) n (Nat.le_refl n)
  have hws : ∀ i, i < n → (ws.map some).getD i none = some (gd ws i) := fun i hi => by
    rw [List.getD_eq_getElem?_getD, List.getElem?_map, List.getElem?_eq_getElem (by omega)]
    unfold gd
    rw [List.getD_eq_getElem?_getD, List.getElem?_eq_getElem (by omega)]
    rfl
  have hy : ∀ r ∈ rs, HoldsR (gd (leastD (chainTab n rs) (ws.map some) x0 n)) r := h1
  have hwy : ∀ i, i < n → gd ws i ≤ gd (leastD (chainTab n rs) (ws.map some) x0 n) i := fun i hi => h3 i hi _ (hws i hi)
  have hle : ∀ z : Nat → Int, (∀ r ∈ rs, HoldsR z r) → (∀ i, i < n → gd ws i ≤ z i) → ∀ i, i < n → gd (leastD (chainTab n rs) (ws.map some) x0 n) i ≤ z i := fun z hz hwz =>
    h4 z hz (fun i hi => by rw [g0 i hi]; exact Int.le_trans (hM i hi) (hwz i hi)) fun i hi v hv => by
      rw [hws i hi] at hv
      cases hv
      exact hwz i hi
  generalize gd (leastD (chainTab n rs) (ws.map some) x0 n) = y at hy hwy hle
  obtain ⟨k1, k2, k3⟩ := settle_is ok hw hy hwy hle (n + 1)
  have same : ∀ i, i < n → gd (settleN rs ws (n + 1)) i = y i := fun i hi => by
    have e : low n (settleN rs ws (n + 1)) y = [] := List.eq_nil_of_length_eq_zero (by omega)
    have : ¬ gd (settleN rs ws (n + 1)) i < y i := fun q => by
      have m : i ∈ low n (settleN rs ws (n + 1)) y := List.mem_filter.mpr ⟨List.mem_range.mpr hi, decide_eq_true q⟩
      rw [e] at m
      cases m
    have := k3 i hi
    omega
  refine ⟨fun r hr => ?_, k2, fun z hz hwz i hi => by rw [same i hi]; exact hle z hz hwz i hi⟩
  obtain ⟨hf, hg⟩ := (ok r hr).ix
  have := hy r hr
  unfold HoldsR at this
  unfold Holds1
  show gd _ _ - gd _ _ ≤ _
  rw [same _ hf, same _ hg]
  exact this
end Hx

set_option Elab.async false
set_option linter.all false
set_option maxRecDepth 100000
set_option maxHeartbeats 4000000
/-! Ropes that are implied. No Python here. -/
namespace Hx
open PySem PySem.Spec PyProof.Rows L2
abbrev InN (n : Nat) (rs : List Rope) : Prop := ∀ r ∈ rs, r.f.toNat < n ∧ r.r.toNat < n
theorem imp_le {d : Tab} {r : Rope} : impD d r = true ↔ Le (d r.f.toNat r.r.toNat) (some r.l) := by
  unfold impD
  cases h : d r.f.toNat r.r.toNat with
  | none =>
    refine ⟨fun z => (by cases z), fun z => ?_⟩
    obtain ⟨x, hx, _⟩ := z _ rfl
    cases hx
  | some x =>
    refine ⟨fun z p e => ?_, fun z => ?_⟩
    · cases e
      exact ⟨x, rfl, of_decide_eq_true z⟩
    · obtain ⟨y, hy, hl⟩ := z _ rfl
      cases hy
      exact decide_eq_true hl
theorem imp_mem {n : Nat} {rs : List Rope} {r : Rope} (h : r ∈ rs) : impD (chainTab n rs) r = true := imp_le.mpr (chain_rope (n := n) h)
theorem below_sub {n : Nat} {A B : List Rope} (hB : Diag n (chainTab n B)) (inA : InN n A) (h : ∀ r ∈ A, impD (chainTab n B) r = true) : Below (chainTab n B) (chainTab n A) :=
  (chain_both (chain_closed hB) hB (fun r hr => imp_le.mp (h r hr)) inA).1
theorem same_tab {n : Nat} {A B : List Rope} (hA : Diag n (chainTab n A)) (hB : Diag n (chainTab n B)) (inA : InN n A) (inB : InN n B) (h1 : ∀ r ∈ B, impD (chainTab n A) r = true) (h2 : ∀ r ∈ A, impD (chainTab n B) r = true) : chainTab n A = chainTab n B := by
  funext a b
  exact le_anti (below_sub hA inB h1 a b) (below_sub hB inA h2 a b)
theorem imp_below {d e : Tab} (h : Below d e) {r : Rope} (k : impD e r = true) : impD d r = true := by
  rw [imp_le] at k ⊢
  intro p hp
  obtain ⟨x, hx, hl⟩ := k p hp
  obtain ⟨y, hy, hl2⟩ := h _ _ x hx
  exact ⟨y, hy, Int.le_trans hl2 hl⟩
/-- more ropes imply no less -/
theorem imp_mono {n : Nat} {A B : List Rope} (hB : Diag n (chainTab n B)) (inA : InN n A) (h : ∀ r ∈ A, r ∈ B) {r : Rope} (k : impD (chainTab n A) r = true) : impD (chainTab n B) r = true :=
  imp_below (below_sub hB inA fun q hq => imp_mem (h q hq)) k
def delR (rs : List Rope) (k : Nat) : List Rope := rs.take k ++ rs.drop (k + 1)
theorem del_sub {rs : List Rope} {k : Nat} : ∀ r ∈ delR rs k, r ∈ rs := fun r h => by
  rcases List.mem_append.mp h with z | z
  · exact List.mem_of_mem_take z
  · exact List.mem_of_mem_drop z
theorem del_len (rs : List Rope) (k : Nat) : (delR rs k).length ≤ rs.length := by
  unfold delR
  rw [List.length_append, List.length_take, List.length_drop]
  omega
theorem del_len1 {rs : List Rope} {k : Nat} (h : k < rs.length) : (delR rs k).length + 1 = rs.length := by
  unfold delR
  rw [List.length_append, List.length_take, List.length_drop]
  omega
def redB (n : Nat) (rs : List Rope) (i : Nat) : Bool := match rs[i]? with
  | some r => impD (chainTab n (delR rs i)) r
  | none => false
def redL (n : Nat) (rs : List Rope) : List Nat := (List.range rs.length).filter (redB n rs)
def redR (n : Nat) : Nat → List Rope → List Rope
  | 0, rs => rs
  | k + 1, rs => redR n k (if redB n rs k = true then delR rs k else rs)
theorem redL_succ (n : Nat) (rs : List Rope) (i : Nat) : (List.range (i + 1)).filter (redB n rs) = (List.range i).filter (redB n rs) ++ if redB n rs i = true then [i] else [] := by
  rw [List.range_succ, List.filter_append, List.filter_cons]
  rfl
structure RedI (n : Nat) (rs : List Rope) (k : Nat) (cur S : List Rope) : Prop where
  eq : cur = rs.take k ++ S
  tab : chainTab n cur = chainTab n rs
  sub : ∀ r ∈ cur, r ∈ rs
  len : cur.length ≤ rs.length
  no : ∀ S1 r S2, S = S1 ++ r :: S2 → impD (chainTab n (rs.take k ++ (S1 ++ S2))) r = false
theorem red_step {n : Nat} {rs : List Rope} {y : Nat → Int} (hy : ∀ r ∈ rs, HoldsR y r) (inr : InN n rs) {k : Nat} (hk : k < rs.length) {cur S : List Rope} (I : RedI n rs (k + 1) cur S) : ∃ S', RedI n rs k (if redB n cur k = true then delR cur k else cur) S' := by
  have htk : rs.take (k + 1) = rs.take k ++ [rs[k]] := by
    rw [List.take_add_one, List.getElem?_eq_getElem hk]
    rfl
  have e0 : cur = rs.take k ++ rs[k] :: S := by rw [I.eq, htk, List.append_assoc]; rfl
  have lk : (rs.take k).length = k := by rw [List.length_take]; omega
  have hat : cur[k]? = some rs[k] := by
    rw [e0, List.getElem?_append_right (by omega), lk, Nat.sub_self]
    rfl
  have hdel : delR cur k = rs.take k ++ S := by
    unfold delR
    rw [e0, List.take_append_of_le_length (by omega), List.take_of_length_le (by omega), List.drop_append, lk, List.drop_of_length_le (by omega), List.nil_append, show k + 1 - k = 1 by omega]
    rfl
  have hrb : redB n cur k = impD (chainTab n (rs.take k ++ S)) rs[k] := by
    unfold redB
    rw [hat, hdel]
  have subc : ∀ r ∈ rs.take k ++ S, r ∈ cur := fun r hr => by rw [← hdel] at hr; exact del_sub r hr
  have dg : ∀ {L : List Rope}, (∀ r ∈ L, r ∈ cur) → Diag n (chainTab n L) := fun h => diag_of_pot fun r hr => hy r (I.sub r (h r hr))
  have inn : ∀ {L : List Rope}, (∀ r ∈ L, r ∈ cur) → InN n L := fun h r hr => inr r (I.sub r (h r hr))
  cases hb : redB n cur k with
  | true =>
    rw [if_pos rfl, hdel]
    rw [hrb] at hb
    refine ⟨S, rfl, ?_, fun r hr => I.sub r (subc r hr), ?_, fun S1 r S2 hS => ?_⟩
    · rw [← I.tab]
      refine same_tab (dg subc) (dg fun r h => h) (inn subc) (inn fun r h => h) (fun r hr => ?_) (fun r hr => imp_mem (subc r hr))
      rw [e0] at hr
      rcases List.mem_append.mp hr with z | z
      · exact imp_mem (List.mem_append_left _ z)
      · rcases List.mem_cons.mp z with z | z
        · rw [z]
          exact hb
        · exact imp_mem (List.mem_append_right _ z)
    · have h1 := del_len cur k
      rw [hdel] at h1
      have := I.len
      omega
    · have h0 := I.no S1 r S2 hS
      rw [Bool.eq_false_iff] at h0 ⊢
      intro z
      refine h0 (imp_mono ?_ ?_ (fun q hq => ?_) z)
      · refine dg fun q hq => ?_
        rw [I.eq, hS]
        rcases List.mem_append.mp hq with w | w
        · exact List.mem_append_left _ w
        · refine List.mem_append_right _ ?_
          rcases List.mem_append.mp w with w | w
          · exact List.mem_append_left _ w
          · exact List.mem_append_right _ (List.mem_cons_of_mem _ w)
      · refine inn fun q hq => subc q ?_
        rw [hS]
        rcases List.mem_append.mp hq with w | w
        · exact List.mem_append_left _ w
        · refine List.mem_append_right _ ?_
          rcases List.mem_append.mp w with w | w
          · exact List.mem_append_left _ w
          · exact List.mem_append_right _ (List.mem_cons_of_mem _ w)
      · rcases List.mem_append.mp hq with w | w
        · rw [htk]
          exact List.mem_append_left _ (List.mem_append_left _ w)
        · exact List.mem_append_right _ w
  | false =>
    rw [if_neg Bool.false_ne_true]
    rw [hrb] at hb
    refine ⟨rs[k] :: S, e0, I.tab, I.sub, I.len, fun S1 r S2 hS => ?_⟩
    cases S1 with
    | nil =>
      cases hS
      exact hb
    | cons q S1 =>
      have h1 : rs[k] = q := by injection hS
      have h2 : S = S1 ++ r :: S2 := by injection hS
      have h0 := I.no S1 r S2 h2
      rw [htk, List.append_assoc, h1] at h0
      exact h0
theorem red_run {n : Nat} {rs : List Rope} {y : Nat → Int} (hy : ∀ r ∈ rs, HoldsR y r) (inr : InN n rs) : ∀ (k : Nat) (cur S : List Rope), k ≤ rs.length → RedI n rs k cur S → ∃ S', RedI n rs 0 (redR n k cur) S'
  | 0, cur, S, _, I => ⟨S, I⟩
  | k + 1, cur, S, hk, I => by
    obtain ⟨S', I'⟩ := red_step hy inr hk I
    exact red_run hy inr k _ S' (by omega) I'
theorem red_all {n : Nat} {rs : List Rope} {y : Nat → Int} (hy : ∀ r ∈ rs, HoldsR y r) (inr : InN n rs) : chainTab n (redR n rs.length rs) = chainTab n rs ∧ (∀ r ∈ redR n rs.length rs, r ∈ rs) ∧ (redR n rs.length rs).length ≤ rs.length ∧ redL n (redR n rs.length rs) = [] := by
  obtain ⟨S, I⟩ := red_run hy inr rs.length rs [] (Nat.le_refl _) ⟨by rw [List.take_length, List.append_nil], rfl, fun r h => h, Nat.le_refl _, fun S1 r S2 h => by simp at h⟩
  refine ⟨I.tab, I.sub, I.len, ?_⟩
  have e : redR n rs.length rs = S := by rw [I.eq]; rfl
  rw [e]
  unfold redL
  rw [List.filter_eq_nil_iff]
  intro i hi
  have hi : i < S.length := List.mem_range.mp hi
  unfold redB
  rw [List.getElem?_eq_getElem hi]
  have h0 := I.no (S.take i) S[i] (S.drop (i + 1)) (by rw [← List.drop_eq_getElem_cons hi, List.take_append_drop])
  show ¬ impD (chainTab n (S.take i ++ S.drop (i + 1))) S[i] = true
  rw [show (rs.take 0 ++ (S.take i ++ S.drop (i + 1))) = S.take i ++ S.drop (i + 1) from rfl] at h0
  rw [h0]
  exact Bool.false_ne_true
/-! the rearmost positions -/
def rearD (d : Tab) (n : Nat) : Nat → List Int
  | 0 => List.replicate n 0
  | k + 1 => moveD d (rearD d n k) k 0
theorem rearD_len (d : Tab) (n : Nat) : ∀ k, (rearD d n k).length = n
  | 0 => List.length_replicate
  | k + 1 => by
    show (moveD d (rearD d n k) k 0).length = n
    rw [moveD_len, rearD_len d n k]
theorem rear_spec (d : Tab) (n : Nat) : ∀ k, ∀ o, o < n → 0 ≤ gd (rearD d n k) o ∧ (∀ b, b < k → ∀ p, d b o = some p → -p ≤ gd (rearD d n k) o) ∧ (gd (rearD d n k) o = 0 ∨ ∃ b, b < k ∧ ∃ p, d b o = some p ∧ gd (rearD d n k) o = -p)
  | 0, o, ho => by
    have e : gd (rearD d n 0) o = 0 := by
      unfold gd rearD
      rw [List.getD_eq_getElem?_getD, List.getElem?_replicate, if_pos ho]
      rfl
    rw [e]
    exact ⟨Int.le_refl _, fun b hb => absurd hb (Nat.not_lt_zero b), .inl rfl⟩
  | k + 1, o, ho => by
    obtain ⟨h1, h2, h3⟩ := rear_spec d n k o ho
    have e : gd (rearD d n (k + 1)) o = mv1 (d k o) (gd (rearD d n k) o) 0 := gd_move d (rearD d n k) k 0 (by rw [rearD_len]; exact ho)
    rw [e]
    have hge := mv1_ge (d k o) (gd (rearD d n k) o) 0
    refine ⟨Int.le_trans h1 hge, fun b hb p hp => ?_, ?_⟩
    · by_cases hbk : b = k
      · subst hbk
        rw [hp]
        have := mv1_some p (gd (rearD d n b) o) 0
        omega
      · exact Int.le_trans (h2 b (by omega) p hp) hge
    · cases hd : d k o with
      | none =>
        rcases h3 with z | ⟨b, hb, p, hp, z⟩
        · exact .inl z
        · exact .inr ⟨b, by omega, p, hp, z⟩
      | some q =>
        show (if 0 - q > gd (rearD d n k) o then 0 - q else gd (rearD d n k) o) = 0 ∨ _
        split
        · exact .inr ⟨k, by omega, q, hd, by show (if 0 - q > gd (rearD d n k) o then 0 - q else gd (rearD d n k) o) = -q; rw [if_pos ‹_›]; omega⟩
        · rename_i hq
          rcases h3 with z | ⟨b, hb, p, hp, z⟩
          · exact .inl z
          · exact .inr ⟨b, by omega, p, hp, by show (if 0 - q > gd (rearD d n k) o then 0 - q else gd (rearD d n k) o) = -p; rw [if_neg hq]; exact z⟩
theorem rear_valid {n : Nat} {rs : List Rope} (F : Fit n rs) : Valid (rearD (chainTab n rs) n n) rs := fun r hr => by
  obtain ⟨hf, hg⟩ := (F.ok r hr).ix
  show gd _ _ - gd _ _ ≤ _
  obtain ⟨_, _, f3⟩ := rear_spec (chainTab n rs) n n _ hf
  obtain ⟨_, r2, _⟩ := rear_spec (chainTab n rs) n n _ hg
  obtain ⟨z, ez, hz⟩ := chain_rope (n := n) hr r.l rfl
  rcases f3 with e | ⟨b, hb, p, hp, e⟩
  · have := r2 _ hf z ez
    omega
  · obtain ⟨y, ey, hy⟩ := F.closed r.f.toNat hf b hb r.r.toNat hg p z hp ez _ rfl
    have := r2 b hb y ey
    omega
theorem rear_most {n : Nat} {rs : List Rope} {y : Nat → Int} (hy : ∀ r ∈ rs, HoldsR y r) (h0 : ∀ i, 0 ≤ y i) : ∀ o, o < n → gd (rearD (chainTab n rs) n n) o ≤ y o := fun o ho => by
  obtain ⟨_, _, h3⟩ := rear_spec (chainTab n rs) n n o ho
  rcases h3 with e | ⟨b, hb, p, hp, e⟩
  · rw [e]
    exact h0 o
  · have := sound_chain (n := n) hy b o p hp
    have := h0 b
    omega
/-- positions that break a rope that is not implied -/
def ctrD (d : Tab) (n : Nat) (q : Rope) : List Int := moveD d (rearD d n n) q.f.toNat (if gd (rearD d n n) q.r.toNat + q.l + 1 > gd (rearD d n n) q.f.toNat then gd (rearD d n n) q.r.toNat + q.l + 1 else gd (rearD d n n) q.f.toNat)
theorem ctr_spec {n : Nat} {rs : List Rope} (F : Fit n rs) {q : Rope} (hq : RopeOk n q) (hn : impD (chainTab n rs) q = false) {y : Nat → Int} (hy : ∀ r ∈ rs, HoldsR y r) (h0 : ∀ i, 0 ≤ y i ∧ y i ≤ 88) :
    Valid (ctrD (chainTab n rs) n q) rs ∧ (ctrD (chainTab n rs) n q).length = n ∧ (∀ i, i < n → 0 ≤ gd (ctrD (chainTab n rs) n q) i ∧ gd (ctrD (chainTab n rs) n q) i ≤ 300) ∧ q.l < gd (ctrD (chainTab n rs) n q) q.f.toNat - gd (ctrD (chainTab n rs) n q) q.r.toNat := by
  obtain ⟨hf, hg⟩ := hq.ix
  have hl := hq.2.2.2.2.2.2
  have hl2 := hq.2.2.2.2.2.1
  have hrl := rearD_len (chainTab n rs) n n
  have hrm := rear_most (n := n) hy fun i => (h0 i).1
  have hrs := rear_spec (chainTab n rs) n n
  have hv := rear_valid F
  unfold ctrD
  generalize rearD (chainTab n rs) n n = x at *
  obtain ⟨p, hp⟩ : ∃ p, (if gd x q.r.toNat + q.l + 1 > gd x q.f.toNat then gd x q.r.toNat + q.l + 1 else gd x q.f.toNat) = p := ⟨_, rfl⟩
  rw [hp]
  have hp1 : gd x q.f.toNat ≤ p ∧ gd x q.r.toNat + q.l + 1 ≤ p := by
    rw [← hp]
    split <;> omega
  have hp2 : p ≤ y q.f.toNat + 188 := by
    have a1 := hrm _ hf
    have a2 := hrm _ hg
    have a3 := h0 q.f.toNat
    have a4 := h0 q.r.toNat
    rw [← hp]
    split <;> omega
  refine ⟨move_valid F hrl hv hf p, by rw [moveD_len, hrl], fun i hi => ⟨Int.le_trans (hrs i hi).1 (move_ge _ _ _ _ (by omega)), ?_⟩, ?_⟩
  · have := move_least (n := n) hrl (b := q.f.toNat) (p := p) (y := fun i => y i + 188) (fun r hr => by
      have : y r.f.toNat - y r.r.toNat ≤ r.l := hy r hr
      show y r.f.toNat + 188 - (y r.r.toNat + 188) ≤ r.l
      omega) (fun j hj => by have := hrm j hj; show gd x j ≤ y j + 188; omega) hp2 i hi
    have := (h0 i).2
    omega
  · rw [gd_move _ _ _ _ (by omega), gd_move _ _ _ _ (by omega), F.diag _ hf]
    have e1 : p ≤ mv1 (some 0) (gd x q.f.toNat) p := by
      have := mv1_some 0 (gd x q.f.toNat) p
      omega
    unfold impD at hn
    cases hd : chainTab n rs q.f.toNat q.r.toNat with
    | none =>
      show q.l < mv1 (some 0) (gd x q.f.toNat) p - gd x q.r.toNat
      omega
    | some z =>
      rw [hd] at hn
      have hz : ¬ z ≤ q.l := of_decide_eq_false hn
      have : mv1 (some z) (gd x q.r.toNat) p ≤ p - q.l - 1 := mv1_le (by omega) fun a ea => by cases ea; omega
      omega
/-! counts -/
def lowD (d : Tab) (b : Nat) (ps : List Int) : Nat → Int
  | 0 => 0
  | o + 1 => match d o b with
    | some l => if gd ps o - l > lowD d b ps o then gd ps o - l else lowD d b ps o
    | none => lowD d b ps o
def highD (d : Tab) (b : Nat) (ps : List Int) (lim : Int) : Nat → Int
  | 0 => lim
  | o + 1 => match d b o with
    | some l => if gd ps o + l < highD d b ps lim o then gd ps o + l else highD d b ps lim o
    | none => highD d b ps lim o
def cntD (d : Tab) (lim : Int) : Nat → List Int → Int
  | 0, ps => if highD d ps.length ps lim ps.length - lowD d ps.length ps ps.length + 1 > 0 then highD d ps.length ps lim ps.length - lowD d ps.length ps ps.length + 1 else 0
  | m + 1, ps => ((List.range (highD d ps.length ps lim ps.length + 1 - lowD d ps.length ps ps.length).toNat).map fun (i : Nat) => cntD d lim m (ps ++ [lowD d ps.length ps ps.length + (i : Int)])).sum
theorem low_bnd {d : Tab} {b : Nat} {ps : List Int} (hd : ∀ a c p, d a c = some p → -200 ≤ p) (hp : ∀ i, gd ps i ≤ 12) : ∀ o, 0 ≤ lowD d b ps o ∧ lowD d b ps o ≤ 212
  | 0 => ⟨Int.le_refl _, by show (0 : Int) ≤ 212; omega⟩
  | o + 1 => by
    have ih := low_bnd (b := b) hd hp o
    unfold lowD
    cases h : d o b with
    | none => exact ih
    | some l =>
      have h1 := hd _ _ _ h
      have h2 := hp o
      show 0 ≤ (if gd ps o - l > lowD d b ps o then gd ps o - l else lowD d b ps o) ∧ (if gd ps o - l > lowD d b ps o then gd ps o - l else lowD d b ps o) ≤ 212
      split <;> omega
theorem high_bnd {d : Tab} {b : Nat} {ps : List Int} {lim : Int} (hd : ∀ a c p, d a c = some p → -200 ≤ p) (hp : ∀ i, 0 ≤ gd ps i) (hl : 0 ≤ lim) : ∀ o, -200 ≤ highD d b ps lim o ∧ highD d b ps lim o ≤ lim
  | 0 => ⟨by show -200 ≤ lim; omega, Int.le_refl _⟩
  | o + 1 => by
    have ih := high_bnd (b := b) hd hp hl o
    unfold highD
    cases h : d b o with
    | none => exact ih
    | some l =>
      have h1 := hd _ _ _ h
      have h2 := hp o
      show -200 ≤ (if gd ps o + l < highD d b ps lim o then gd ps o + l else highD d b ps lim o) ∧ (if gd ps o + l < highD d b ps lim o then gd ps o + l else highD d b ps lim o) ≤ lim
      split <;> omega
end Hx

set_option Elab.async false
set_option linter.all false
set_option maxRecDepth 100000
set_option maxHeartbeats 4000000
/-! x not in a tuple of data, a tuple times a number from 1, reversed(range), max of a list. -/
namespace Hx
open PySem PySem.Spec PyProof.Rows L2
section
variable {X : Cx} (K : PySem.W.Frag)
def rNotInT (K : PySem.W.Frag) : R2 := fun x y H Q => ∃ d ds, Dp K H x d ∧ Dp K H y (.tuple ds) ∧ SeqAt.shaped d = true ∧ SeqAt.shaped (.tuple ds) = true ∧ Q (.bl (!ds.any fun z => PyData.eqv z d)) H
theorem notInT (h : X.K = K) (hu : X.A.units + 65 < cLine) : OpR X (compareOp .NotIn) (rNotInT K) := by
  subst h
  intro pins s σ H x y v u Q I rx ry h
  obtain ⟨d, ds, hd, he, sd, se, q⟩ := h
  obtain ⟨as, r1⟩ := Dp.reads I d x v hd rx
  obtain ⟨bs, r2⟩ := Dp.reads I (.tuple ds) y u he ry
  exact SeqAt.notIn_tuple_reads r2 r1 (SeqAt.canLay_of_shaped se) (SeqAt.canLay_of_shaped sd) (room_in_shaped sd hu) ⟨.bl _, H, I, rfl, q⟩
theorem repT (h : X.K = K) : OpR X (binaryOp .Mult) (rRepT K) := by subst h; exact op_repT
theorem maxQ (h : X.K = K) (hc : X.calm = true) : CallR X (.builtin "max") (rMax K) := by subst h; exact cr_max hc
theorem sumQ (h : X.K = K) (hc : X.calm = true) : CallR X (.builtin "sum") (rSum K) := by subst h; exact cr_sum hc
theorem tuple_mul1 (l : Addr) (items : Array Value) (n : Nat) (dd : Option Addr) (sl : Array (Option Value)) (u : Tok) :
    Meets (Builtin.«tuple.__mul__» ⟨[.ref l, .int 1 u], []⟩) (fun _ R s => s.heap.get? l = some { cls := .type "tuple", dict := dd, data := .seq items n, slots := sl } ∧ R (.ok (.ret (Value.ref l))) s) :=
  .of_wp fun prog w A R s h => by
    obtain ⟨hp, g, d, tk, os⟩ := s
    obtain ⟨hl, h⟩ := h
    have f1 := AutoSeq1.idx_int
    have c1 : (items.isEmpty || (1 : Int) == 1) = true := by simp
    wp_walk using wpAny_loadPart' hl
    repeat (first
      | (refine wpAny_ite_true (decide_eq_true c1) ?_; wp_walk using wpAny_loadPart' hl)
      | (refine wpAny_ite_true c1 ?_; wp_walk using wpAny_loadPart' hl))
    exact ⟨_, rfl, h⟩
def rRepTA (K : PySem.W.Frag) : R2 := fun x y H Q => ∃ l k xs, x = .ref l ∧ y = .int k ∧ SqT K H l xs ∧ xs ≠ [] ∧ 1 ≤ k ∧ k ≤ 1000 ∧ xs.length ≤ 1000 ∧ (k = 1 → Q (.ref l) H) ∧ (2 ≤ k → ∀ p, H p = none → Q (.ref p) (upd H p (.tup (List.replicate k.toNat xs).flatten)))
theorem repTA (h : X.K = K) : OpR X (binaryOp .Mult) (rRepTA K) := by
  subst h
  intro pins s σ H x y v u Q I rx ry h
  obtain ⟨l, k, xs, rfl, rfl, hT, hne, h1, h2, hz, q1, q2⟩ := h
  by_cases hk : k = 1
  · subst hk
    cases rx
    obtain ⟨t, rfl⟩ := ry
    obtain ⟨its, r, ⟨⟨cls, dd, data, sl⟩, ho, hc, n, hd⟩, hs⟩ := I.tuple hT
    simp only at hc hd
    subst hc hd
    refine wpAny_binaryOp_repeat_ref (T := "tuple") (U := "int") (by decide) ⟨_, ho, rfl⟩ (fun s' => typeIs_int s' 1 t) noFill_tuple_mul F.fills_int_mul F.slot_int_rmul repeat_tuple F.slot_int_index.lookup
      (call_meets F.slot_int_rmul (typeIs_int s 1 t) F.entry_int_rmul (F.args_int_rmul_2 _ _) (int_rmul_tuple 1 t l its.toArray n dd sl)
        ⟨ho, rfl, ⟨_, ho, rfl⟩, call_meets F.slot_tuple_mul ⟨_, ho, rfl⟩ F.entry_tuple_mul (F.args_tuple_mul_2 _ _) (tuple_mul1 l its.toArray n dd sl t) ⟨ho, ?_⟩⟩)
    exact ⟨.ref l, H, I, rfl, q1 rfl⟩
  · exact op_repT pins s σ H _ _ v u Q I rx ry ⟨l, k, xs, rfl, rfl, hT, hne, by omega, h2, hz, q2 (by omega)⟩
end
theorem units65 {k : Nat} {A : Around} (r : Room k A) : A.units + 65 < cLine := by
  have := r.un
  omega
section
variable {H : Hp} {Q : VK} {K : PySem.W.Frag}
theorem cat_two {b p : Addr} {xs zs : List V} (hb : SqT K H b xs) (hp : SqT K H p zs) (hz : xs.length + zs.length ≤ sizeLine) (q : ∀ m H', Same H H' → SqT K H' m (xs ++ zs) → Q (.ref m) H') : rCatA K (.ref b) (.ref p) H Q := by
  refine ⟨b, p, xs, zs, rfl, rfl, hb, hp, hz, fun e => ?_, fun _ e => ?_, fun _ _ m hm => q m _ (same_upd hm) (.of upd_same)⟩
  · subst e
    exact q p H (.refl H) hp
  · subst e
    exact q b H (.refl H) (by rw [List.append_nil]; exact hb)
theorem sl_two {b : Addr} {xs zs : List V} {lo hi : Option Int} (hb : SqT K H b xs) (e : cutV xs lo hi = zs) (hw : HT.sIx xs.length 0 lo = 0 ∧ HT.sIx xs.length xs.length hi = xs.length → zs = xs) (q : ∀ m H', Same H H' → SqT K H' m zs → Q (.ref m) H') : rSlA K (.ref b) lo hi H Q := by
  subst e
  refine ⟨b, xs, rfl, hb, fun w => ?_, fun _ p hp => q p _ (same_upd hp) (.of upd_same)⟩
  have := hw w
  exact q b H (.refl H) (by rw [this]; exact hb)
theorem cut_to (xs : List V) {j : Nat} : cutV xs none (some (j : Int)) = xs.take j := by
  have e : HT.sIx xs.length xs.length (some (j : Int)) = min j xs.length := HT.sIx_nat _ _ _
  unfold cutV
  rw [e]
  show (xs.drop 0).take (min j xs.length - 0) = _
  rw [List.drop_zero, Nat.sub_zero]
  by_cases h : j ≤ xs.length
  · rw [Nat.min_eq_left h]
  · rw [Nat.min_eq_right (by omega), List.take_length, List.take_of_length_le (by omega)]
theorem cut_from (xs : List V) {j : Nat} : cutV xs (some (j : Int)) none = xs.drop j := by
  have e : HT.sIx xs.length 0 (some (j : Int)) = min j xs.length := HT.sIx_nat _ _ _
  have e2 : HT.sIx xs.length xs.length none = xs.length := rfl
  unfold cutV
  rw [e, e2]
  by_cases h : j ≤ xs.length
  · rw [Nat.min_eq_left h]
    exact List.take_of_length_le (by rw [List.length_drop]; omega)
  · rw [Nat.min_eq_right (by omega), List.drop_length, List.drop_of_length_le (by omega)]
    exact List.take_nil
/-- t[:j] -/
theorem sl_to {b : Addr} {xs : List V} {j : Nat} (hb : SqT K H b xs) (q : ∀ m H', Same H H' → SqT K H' m (xs.take j) → Q (.ref m) H') : rSlA K (.ref b) none (some (j : Int)) H Q := by
  refine sl_two hb (cut_to xs) (fun w => ?_) q
  have := w.2
  rw [HT.sIx_nat] at this
  exact List.take_of_length_le (by omega)
/-- t[j:] -/
theorem sl_from {b : Addr} {xs : List V} {j : Nat} (hb : SqT K H b xs) (q : ∀ m H', Same H H' → SqT K H' m (xs.drop j) → Q (.ref m) H') : rSlA K (.ref b) (some (j : Int)) none H Q := by
  refine sl_two hb (cut_from xs) (fun w => ?_) q
  have := w.1
  rw [HT.sIx_nat] at this
  rcases Nat.eq_zero_or_pos j with h | h
  · subst h
    exact List.drop_zero
  · have : xs.length = 0 := by omega
    rw [List.length_eq_zero_iff.mp this]
    exact List.drop_nil
end
end Hx

set_option linter.all false
set_option maxHeartbeats 1000000
/-! Knots: who leads whom. No Python here. -/
namespace Hx
abbrev Links2 := List (Nat × Nat)
/-- links (front, rear) lead from a to b -/
inductive Rch (ls : Links2) : Nat → Nat → Prop
  | refl (a : Nat) : Rch ls a a
  | step {a b c : Nat} (h : (a, b) ∈ ls) (k : Rch ls b c) : Rch ls a c
theorem Rch.trans {ls : Links2} {a b : Nat} (h : Rch ls a b) : ∀ {c : Nat}, Rch ls b c → Rch ls a c := by
  induction h with
  | refl a => exact fun k => k
  | step h _ ih => exact fun k => .step h (ih k)
theorem Rch.one {ls : Links2} {a b : Nat} (h : (a, b) ∈ ls) : Rch ls a b := .step h (.refl b)
theorem Rch.snoc {ls : Links2} {a b c : Nat} (h : Rch ls a b) (k : (b, c) ∈ ls) : Rch ls a c := h.trans (.one k)
/-- a set into which no link leads holds all that lead to one of it -/
theorem Rch.back {ls : Links2} {F : Nat → Prop} (hF : ∀ p ∈ ls, F p.2 → F p.1) {a b : Nat} (h : Rch ls a b) : F b → F a := by
  induction h with
  | refl a => exact fun k => k
  | step h _ ih => exact fun k => hF _ h (ih k)
theorem Rch.fore {ls : Links2} {F : Nat → Prop} (hF : ∀ p ∈ ls, F p.1 → F p.2) {a b : Nat} (h : Rch ls a b) : F a → F b := by
  induction h with
  | refl a => exact fun k => k
  | step h _ ih => exact fun k => ih (hF _ h k)
theorem Rch.inN {ls : Links2} {bs : List Nat} (hin : ∀ p ∈ ls, p.1 ∈ bs ∧ p.2 ∈ bs) {a b : Nat} (h : Rch ls a b) : b ∈ bs → a ∈ bs := h.back (F := fun x => x ∈ bs) fun p hp _ => (hin p hp).1
theorem Rch.inF {ls : Links2} {bs : List Nat} (hin : ∀ p ∈ ls, p.1 ∈ bs ∧ p.2 ∈ bs) {a b : Nat} (h : Rch ls a b) : a ∈ bs → b ∈ bs := h.fore (F := fun x => x ∈ bs) fun p hp _ => (hin p hp).2
noncomputable def rB (ls : Links2) (a b : Nat) : Bool := @decide (Rch ls a b) (Classical.propDecidable _)
theorem rB_iff {ls : Links2} {a b : Nat} : rB ls a b = true ↔ Rch ls a b := by
  unfold rB
  exact @decide_eq_true_iff _ (Classical.propDecidable _)
/-! ascending lists -/
abbrev Asc (l : List Nat) : Prop := l.Pairwise (· < ·)
theorem asc_ext : ∀ {a b : List Nat}, Asc a → Asc b → (∀ x, x ∈ a ↔ x ∈ b) → a = b
  | [], [], _, _, _ => rfl
  | [], y :: b, _, _, h => by
    have := (h y).mpr List.mem_cons_self
    cases this
  | x :: a, [], _, _, h => by
    have := (h x).mp List.mem_cons_self
    cases this
  | x :: a, y :: b, ha, hb, h => by
    obtain ⟨ha1, ha2⟩ := List.pairwise_cons.mp ha
    obtain ⟨hb1, hb2⟩ := List.pairwise_cons.mp hb
    have e : x = y := by
      have h1 := (h x).mp List.mem_cons_self
      have h2 := (h y).mpr List.mem_cons_self
      rcases List.mem_cons.mp h1 with e | h1
      · exact e
      · rcases List.mem_cons.mp h2 with e | h2
        · exact e.symm
        · have := ha1 y h2
          have := hb1 x h1
          omega
    subst e
    congr 1
    refine asc_ext ha2 hb2 fun z => ⟨fun hz => ?_, fun hz => ?_⟩
    · rcases List.mem_cons.mp ((h z).mp (List.mem_cons_of_mem _ hz)) with e | q
      · have := ha1 z hz
        omega
      · exact q
    · rcases List.mem_cons.mp ((h z).mpr (List.mem_cons_of_mem _ hz)) with e | q
      · have := hb1 z hz
        omega
      · exact q
theorem asc_range (n : Nat) : Asc (List.range n) := List.pairwise_lt_range
theorem asc_filter {l : List Nat} (p : Nat → Bool) (h : Asc l) : Asc (l.filter p) := h.filter p
theorem asc_nodup {l : List Nat} (h : Asc l) : l.Nodup := h.imp fun h => Nat.ne_of_lt h
/-! knots -/
noncomputable def sccL (ls : Links2) (bs : List Nat) (b : Nat) : List Nat := bs.filter fun o => rB ls o b && rB ls b o
theorem mem_scc {ls : Links2} {bs : List Nat} {b o : Nat} : o ∈ sccL ls bs b ↔ o ∈ bs ∧ Rch ls o b ∧ Rch ls b o := by
  unfold sccL
  rw [List.mem_filter, Bool.and_eq_true, rB_iff, rB_iff]
noncomputable def knotsF (ls : Links2) (bs cs : List Nat) : List (List Nat) := (cs.filter fun b => (sccL ls bs b).head? == some b).map (sccL ls bs)
def ledB (ls : Links2) (k : List Nat) : Bool := ls.any fun p => decide (p.2 ∈ k) && !decide (p.1 ∈ k)
noncomputable def srcL (ls : Links2) (bs : List Nat) : List (List Nat) := (knotsF ls bs bs).filter fun k => !ledB ls k
theorem knotsF_snoc (ls : Links2) (bs cs : List Nat) (b : Nat) : knotsF ls bs (cs ++ [b]) = knotsF ls bs cs ++ if (sccL ls bs b).head? == some b then [sccL ls bs b] else [] := by
  unfold knotsF
  rw [List.filter_append, List.map_append]
  congr 1
  by_cases h : ((sccL ls bs b).head? == some b) = true
  · rw [if_pos h, List.filter_cons, if_pos h]
    rfl
  · rw [if_neg h, List.filter_cons, if_neg h]
    rfl
theorem scc_same {ls : Links2} {bs : List Nat} {b o : Nat} (h : o ∈ sccL ls bs b) : sccL ls bs o = sccL ls bs b := by
  obtain ⟨_, h1, h2⟩ := mem_scc.mp h
  unfold sccL
  refine List.filter_congr fun x _ => ?_
  rw [Bool.eq_iff_iff, Bool.and_eq_true, Bool.and_eq_true, rB_iff, rB_iff, rB_iff, rB_iff]
  exact ⟨fun ⟨a, c⟩ => ⟨a.trans h1, h2.trans c⟩, fun ⟨a, c⟩ => ⟨a.trans h2, h1.trans c⟩⟩
theorem mem_knots {ls : Links2} {bs : List Nat} {k : List Nat} : k ∈ knotsF ls bs bs ↔ ∃ b, b ∈ bs ∧ (sccL ls bs b).head? = some b ∧ k = sccL ls bs b := by
  unfold knotsF
  rw [List.mem_map]
  constructor
  · rintro ⟨b, hb, rfl⟩
    obtain ⟨h1, h2⟩ := List.mem_filter.mp hb
    exact ⟨b, h1, by simpa using h2, rfl⟩
  · rintro ⟨b, h1, h2, rfl⟩
    exact ⟨b, List.mem_filter.mpr ⟨h1, by simpa using h2⟩, rfl⟩
theorem scc_self {ls : Links2} {bs : List Nat} {b : Nat} (h : b ∈ bs) : b ∈ sccL ls bs b := mem_scc.mpr ⟨h, .refl b, .refl b⟩
/-- the knot of a barge is in the list -/
theorem scc_in {ls : Links2} {bs : List Nat} {b : Nat} (h : b ∈ bs) : sccL ls bs b ∈ knotsF ls bs bs := by
  have hs := scc_self (ls := ls) h
  cases e : sccL ls bs b with
  | nil =>
    rw [e] at hs
    cases hs
  | cons x r =>
    have hx : x ∈ sccL ls bs b := by rw [e]; exact List.mem_cons_self
    have e2 := scc_same hx
    rw [← e, ← e2]
    exact mem_knots.mpr ⟨x, (mem_scc.mp hx).1, by rw [e2, e]; rfl, rfl⟩
theorem knot_ne {ls : Links2} {bs : List Nat} {k : List Nat} (h : k ∈ knotsF ls bs bs) : k ≠ [] := by
  obtain ⟨b, h1, h2, rfl⟩ := mem_knots.mp h
  intro e
  rw [e] at h2
  cases h2
theorem knot_sub {ls : Links2} {bs : List Nat} {k : List Nat} (h : k ∈ knotsF ls bs bs) : ∀ x ∈ k, x ∈ bs := by
  obtain ⟨b, h1, h2, rfl⟩ := mem_knots.mp h
  exact fun x hx => (mem_scc.mp hx).1
theorem ledB_iff {ls : Links2} {k : List Nat} : ledB ls k = true ↔ ∃ p ∈ ls, p.2 ∈ k ∧ p.1 ∉ k := by
  unfold ledB
  rw [List.any_eq_true]
  constructor
  · rintro ⟨p, h1, h2⟩
    obtain ⟨a, b⟩ := Bool.and_eq_true_iff.mp h2
    exact ⟨p, h1, of_decide_eq_true a, by simpa using b⟩
  · rintro ⟨p, h1, h2, h3⟩
    exact ⟨p, h1, Bool.and_eq_true_iff.mpr ⟨decide_eq_true h2, by simpa using h3⟩⟩
theorem mem_src {ls : Links2} {bs : List Nat} {k : List Nat} : k ∈ srcL ls bs ↔ k ∈ knotsF ls bs bs ∧ ∀ p ∈ ls, p.2 ∈ k → p.1 ∈ k := by
  unfold srcL
  rw [List.mem_filter, Bool.not_eq_true']
  refine and_congr_right fun _ => ?_
  rw [Bool.eq_false_iff, Ne, ledB_iff]
  constructor
  · intro h p hp h2
    exact Classical.byContradiction fun h3 => h ⟨p, hp, h2, h3⟩
  · rintro h ⟨p, hp, h2, h3⟩
    exact h3 (h p hp h2)
/-- each barge is led by a source knot -/
theorem src_of {ls : Links2} {bs : List Nat} (hin : ∀ p ∈ ls, p.1 ∈ bs ∧ p.2 ∈ bs) : ∀ (N : Nat) (b : Nat), b ∈ bs → (bs.filter fun o => rB ls o b).length ≤ N → ∃ k ∈ srcL ls bs, ∃ x ∈ k, Rch ls x b
  | 0, b, hb, h => by
    have : b ∈ bs.filter fun o => rB ls o b := List.mem_filter.mpr ⟨hb, rB_iff.mpr (.refl b)⟩
    rw [List.length_eq_zero_iff.mp (Nat.le_zero.mp h)] at this
    cases this
  | N + 1, b, hb, h => by
    by_cases hs : sccL ls bs b ∈ srcL ls bs
    · exact ⟨_, hs, b, scc_self hb, .refl b⟩
    · have hn : ¬ ∀ p ∈ ls, p.2 ∈ sccL ls bs b → p.1 ∈ sccL ls bs b := fun z => hs (mem_src.mpr ⟨scc_in hb, z⟩)
      obtain ⟨p, hp, h2, h1⟩ : ∃ p ∈ ls, p.2 ∈ sccL ls bs b ∧ p.1 ∉ sccL ls bs b := Classical.byContradiction fun z => hn fun p hp h2 => Classical.byContradiction fun h1 => z ⟨p, hp, h2, h1⟩
      obtain ⟨_, g1, g2⟩ := mem_scc.mp h2
      have f1 := (hin p hp).1
      have r1 : Rch ls p.1 b := .step hp g1
      have nr : ¬ Rch ls b p.1 := fun z => h1 (mem_scc.mpr ⟨f1, r1, z⟩)
      have hlt : (bs.filter fun o => rB ls o p.1).length < (bs.filter fun o => rB ls o b).length := by
        have sub : ∀ o, rB ls o p.1 = true → rB ls o b = true := fun o ho => rB_iff.mpr ((rB_iff.mp ho).trans r1)
        have key : ∀ (l : List Nat), b ∈ l → (l.filter fun o => rB ls o p.1).length < (l.filter fun o => rB ls o b).length := by
          have le : ∀ l : List Nat, (l.filter fun o => rB ls o p.1).length ≤ (l.filter fun o => rB ls o b).length := fun l => by
            induction l with
            | nil => exact Nat.le_refl _
            | cons x l ih =>
              rw [List.filter_cons, List.filter_cons]
              by_cases hx : rB ls x p.1 = true
              · rw [if_pos hx, if_pos (sub x hx)]
                exact Nat.succ_le_succ ih
              · rw [if_neg hx]
                split
                · exact Nat.le_succ_of_le ih
                · exact ih
          intro l
          induction l with
          | nil => exact fun z => by cases z
          | cons x l ih =>
            intro hm
            rw [List.filter_cons, List.filter_cons]
            rcases List.mem_cons.mp hm with e | hm
            · subst e
              rw [if_neg (fun z => nr (rB_iff.mp z)), if_pos (rB_iff.mpr (.refl b))]
              exact Nat.lt_succ_of_le (le l)
            · by_cases hx : rB ls x p.1 = true
              · rw [if_pos hx, if_pos (sub x hx)]
                exact Nat.succ_lt_succ (ih hm)
              · rw [if_neg hx]
                split
                · exact Nat.lt_succ_of_lt (ih hm)
                · exact ih hm
        exact key bs hb
      obtain ⟨k, hk, x, hx, r⟩ := src_of hin N p.1 f1 (by omega)
      exact ⟨k, hk, x, hx, r.trans r1⟩
theorem src_leads {ls : Links2} {bs : List Nat} (hin : ∀ p ∈ ls, p.1 ∈ bs ∧ p.2 ∈ bs) {b : Nat} (hb : b ∈ bs) : ∃ k ∈ srcL ls bs, ∃ x ∈ k, Rch ls x b := src_of hin _ b hb (Nat.le_refl _)
theorem knot_rch {ls : Links2} {bs : List Nat} {k : List Nat} (h : k ∈ knotsF ls bs bs) {x y : Nat} (hx : x ∈ k) (hy : y ∈ k) : Rch ls x y := by
  obtain ⟨b, h1, h2, rfl⟩ := mem_knots.mp h
  exact (mem_scc.mp hx).2.1.trans (mem_scc.mp hy).2.2
theorem pw_of_nodup {α β : Type} (g : α → β) {l : List α} (hi : ∀ x ∈ l, ∀ y ∈ l, g x = g y → x = y) (h : l.Nodup) : (l.map g).Nodup := by
  induction l with
  | nil => exact .nil
  | cons x l ih =>
    obtain ⟨h1, h2⟩ := List.nodup_cons.mp h
    rw [List.map_cons]
    refine List.nodup_cons.mpr ⟨fun hm => ?_, ih (fun a ha b hb => hi a (List.mem_cons_of_mem _ ha) b (List.mem_cons_of_mem _ hb)) h2⟩
    obtain ⟨y, hy, e⟩ := List.mem_map.mp hm
    have := hi y (List.mem_cons_of_mem _ hy) x List.mem_cons_self e
    exact h1 (this ▸ hy)
/-- the knots are different lists -/
theorem knots_nodup {ls : Links2} {bs : List Nat} (h : bs.Nodup) : (knotsF ls bs bs).Nodup := by
  unfold knotsF
  refine pw_of_nodup _ (fun x hx y hy e => ?_) (h.filter _)
  have h1 := (List.mem_filter.mp hx).2
  have h2 := (List.mem_filter.mp hy).2
  have h1 : (sccL ls bs x).head? = some x := by simpa using h1
  have h2 : (sccL ls bs y).head? = some y := by simpa using h2
  rw [e, h2] at h1
  exact (Option.some.inj h1).symm
theorem src_nodup {ls : Links2} {bs : List Nat} (h : bs.Nodup) : (srcL ls bs).Nodup := (knots_nodup h).filter _
/-- different knots share no barge -/
theorem knots_apart {ls : Links2} {bs : List Nat} {k k' : List Nat} (h : k ∈ knotsF ls bs bs) (h' : k' ∈ knotsF ls bs bs) {x : Nat} (hx : x ∈ k) (hx' : x ∈ k') : k = k' := by
  obtain ⟨b, h1, h2, rfl⟩ := mem_knots.mp h
  obtain ⟨b', h1', h2', rfl⟩ := mem_knots.mp h'
  rw [← scc_same hx, ← scc_same hx']
end Hx

set_option Elab.async false
set_option linter.all false
set_option maxRecDepth 100000
set_option maxHeartbeats 4000000
namespace Hx
open PySem PySem.Spec PyProof.Rows L2
local macro_rules | `(tactic| walk_at "rd") => `(tactic| (try simp only [q_var, q_c, q_op, q_un, q_rI, q_rI0, q_rU, q_rEq, q_rNe, q_test, q_tB, q_and, q_or, q_not, q_andV, q_orV, q_notV, q_if, q_isN, q_notN, q_chain, q_next, q_seq, q_break, q_cont, q_drop, q_ret, q_retN, q_ifS, q_never, q_gN, q_gNil, q_gCons, q_gTup, q_gSub, q_asg, q_par, q_aug, q_nil, q_cons, q_tup, q_lst, q_call, q_cb, q_noPart, q_part, q_sl, q_bm0, q_bm, q_yes, q_for, q_lc, q_iList, q_iTup, q_iRng1, q_iEnumT, q_iEnum, q_iRng2, q_iZipA, q_iZipM, q_ipI, q_ckw, q_len, q_listOf, q_tupleOf, L2.start, cx_K, wipe, List.map_cons, List.map_nil, List.length_cons, List.length_nil, List.cons_append, List.nil_append, List.append_nil, List.replicate, List.getElem?_cons_zero, List.getElem?_cons_succ, List.set_cons_zero, List.set_cons_succ, Option.some.injEq, List.cons.injEq, exists_eq_left', exists_eq_left, exists_and_left, V.int.injEq, V.bl.injEq, V.ref.injEq, if_true, if_false, Bool.not_true, Bool.not_false, true_and, and_true, Bool.false_eq_true, ite_true, ite_false, Nat.reduceAdd, Nat.reduceSub, reduceCtorEq, decide_false, decide_true, Int.toNat_natCast, false_and, exists_false, or_false, false_or]))
/-- more built-in names that the text leaves alone -/
structure Blt2 (mg : Str → Option Value) : Prop where
  sum : mg "sum" = none
  sorted : mg "sorted" = none
  dict : mg "dict" = none
  set : mg "set" = none
  abs : mg "abs" = none
  reversed : mg "reversed" = none
  str : mg "str" = none
theorem sortedQ {X : Cx} (K : PySem.W.Frag) (h : X.K = K) : CallR X (.builtin "sorted") (rSorted K) := by subst h; exact cr_sorted
section
variable {K : PySem.W.Frag} {g : TG} {tb : TS} {D : Ends} {σ : L2.St} {H : Hp} {a b : Addr} {xs ys : List V} {tt : TT} {te : TE} {vs : List Nat} {p : Addr} {Qd : Hp → Prop}
theorem lcEnumT (Pv : Nat → Hp → Prop) (h0 : Pv 0 (upd H p (.lst []))) (hG : ∀ i H, i ≤ xs.length → Pv i H → SqT K H a xs)
    (hs : ∀ (i : Nat) x T H, xs[i]? = some x → Pv i H → H T = none → g (.ref T) (wipe σ vs) (upd H T (.tup [.int i, x])) fun σ2 H2 => wipe σ2 vs = wipe σ vs ∧ tt σ2 H2 fun b H3 =>
      if b = true then te σ2 H3 fun y H4 => ∃ acc, H4 p = some (.lst acc) ∧ acc.length < sizeLine ∧ Pv (i + 1) (upd H4 p (.lst (acc ++ [y]))) else Pv (i + 1) H3) (hd : ∀ H, Pv xs.length H → Qd H) : LcW (IteT K a) g tt te vs p σ H Qd :=
  lcW walk_enumT Pv h0 hG (fun i x H H' _ p y => by
    obtain ⟨T, u, v, rfl, hT, rfl, e1, e2⟩ := y
    cases Option.some.inj e1
    exact hs i v T H e2 p hT) hd
/-- a list at l of objects at ts, what each holds told by o of xs -/
structure ObjsTs {α : Type} (o : α → HO) (H : Hp) (l : Addr) (ts : List Addr) (xs : List α) : Prop where
  top : H l = some (.lst (ts.map V.ref))
  len : ts.length = xs.length
  out : l ∉ ts
  obj : ∀ (i : Nat) t x, ts[i]? = some t → xs[i]? = some x → H t = some (o x)
def ObjsAt {α : Type} (o : α → HO) (H : Hp) (l : Addr) (xs : List α) : Prop := ∃ ts, ObjsTs o H l ts xs
theorem ObjsTs.mono {α : Type} {o : α → HO} {H H' : Hp} {l : Addr} {ts : List Addr} {xs : List α} (h : ObjsTs o H l ts xs) (e : Same H H') : ObjsTs o H' l ts xs := ⟨e _ _ h.top, h.len, h.out, fun i t x a b => e _ _ (h.obj i t x a b)⟩
theorem ObjsAt.mono {α : Type} {o : α → HO} {H H' : Hp} {l : Addr} {xs : List α} (h : ObjsAt o H l xs) (e : Same H H') : ObjsAt o H' l xs := by
  obtain ⟨ts, h⟩ := h
  exact ⟨ts, h.mono e⟩
theorem ObjsTs.nil {α : Type} {o : α → HO} {H : Hp} {l : Addr} (h : H l = some (.lst [])) : ObjsTs o H l [] [] := ⟨h, rfl, List.not_mem_nil, fun i t x a => by simp at a⟩
theorem ObjsTs.snoc {α : Type} {o : α → HO} {H : Hp} {l T : Addr} {ts : List Addr} {xs : List α} {x : α} (h : ObjsTs o H l ts xs) (hT : H T = some (o x)) (n : T ≠ l) : ObjsTs o (upd H l (.lst (ts.map V.ref ++ [.ref T]))) l (ts ++ [T]) (xs ++ [x]) := by
  refine ⟨by rw [upd_same, List.map_append]; rfl, by rw [List.length_append, List.length_append, h.len]; rfl, fun z => ?_, fun i t y a b => ?_⟩
  · rcases List.mem_append.mp z with z | z
    · exact h.out z
    · exact n (List.mem_singleton.mp z).symm
  · have nt : t ≠ l := by
      rintro rfl
      rcases List.mem_append.mp (List.mem_of_getElem? a) with z | z
      · exact h.out z
      · exact n (List.mem_singleton.mp z).symm
    rw [upd_ne nt]
    rcases Nat.lt_or_ge i ts.length with q | q
    · rw [List.getElem?_append_left q] at a
      rw [List.getElem?_append_left (by rw [← h.len]; exact q)] at b
      exact h.obj i t y a b
    · rw [List.getElem?_append_right q] at a
      rw [List.getElem?_append_right (by rw [← h.len]; exact q)] at b
      have e : i - ts.length = 0 := by
        have := (List.getElem?_eq_some_iff.mp a).1
        simp at this
        omega
      rw [e] at a
      rw [← h.len, e] at b
      cases a
      cases b
      exact hT
theorem ObjsTs.get {α : Type} {o : α → HO} {H : Hp} {l : Addr} {ts : List Addr} {xs : List α} (h : ObjsTs o H l ts xs) {i : Nat} {v : V} (hv : (ts.map V.ref)[i]? = some v) : ∃ t x, v = .ref t ∧ ts[i]? = some t ∧ xs[i]? = some x ∧ H t = some (o x) := by
  rw [List.getElem?_map] at hv
  cases e : ts[i]? with
  | none =>
    rw [e] at hv
    cases hv
  | some t =>
    rw [e] at hv
    cases hv
    have hi : i < xs.length := by
      rw [← h.len]
      exact (List.getElem?_eq_some_iff.mp e).1
    exact ⟨t, xs[i], rfl, rfl, List.getElem?_eq_getElem hi, h.obj i t _ e (List.getElem?_eq_getElem hi)⟩
def oPair (p : Nat × Nat) : HO := .tup [.int (p.1 : Nat), .int (p.2 : Nat)]
def oNats (k : List Nat) : HO := .lst (natV k)
abbrev LinksAt (H : Hp) (l : Addr) (ls : Links2) : Prop := ObjsAt oPair H l ls
abbrev KnotsAt (H : Hp) (l : Addr) (ks : List (List Nat)) : Prop := ObjsAt oNats H l ks
theorem natV_app (a b : List Nat) : natV (a ++ b) = natV a ++ natV b := by
  unfold natV
  rw [List.map_append]
theorem natV_len (a : List Nat) : (natV a).length = a.length := by
  unfold natV
  rw [List.length_map]
theorem natV_flat (a : List Nat) : (natV a).all flatV = true := by
  unfold natV
  rw [List.all_map]
  exact List.all_eq_true.mpr fun _ _ => rfl
theorem inV_nat (x : Nat) (a : List Nat) : inV (.int (x : Nat)) (natV a) = decide (x ∈ a) := by
  have e : natV a = (a.map fun (k : Nat) => (k : Int)).map V.int := by
    unfold natV
    rw [List.map_map]
    rfl
  rw [e, inV_ints]
  refine decide_eq_decide.mpr ⟨fun h => ?_, fun h => List.mem_map.mpr ⟨x, h, rfl⟩⟩
  obtain ⟨y, hy, e⟩ := List.mem_map.mp h
  have e : (y : Int) = x := e
  have e : y = x := by omega
  rw [← e]
  exact hy
theorem in_nat {Q : VK} {l : Addr} {k : List Nat} {x : Nat} (h : H l = some (.lst (natV k))) (q : Q (.bl (decide (x ∈ k))) H) : rIn K false (.int (x : Nat)) (.ref l) H Q :=
  ⟨l, _, rfl, .inl (.of h), rfl, natV_flat k, by rw [inV_nat]; exact q⟩
theorem notIn_nat {Q : VK} {l : Addr} {k : List Nat} {x : Nat} (h : H l = some (.lst (natV k))) (q : Q (.bl (!decide (x ∈ k))) H) : rIn K true (.int (x : Nat)) (.ref l) H Q :=
  ⟨l, _, rfl, .inl (.of h), rfl, natV_flat k, by rw [inV_nat]; exact q⟩
theorem natV_get {k : List Nat} {i : Nat} {v : V} (h : (natV k)[i]? = some v) : ∃ x : Nat, k[i]? = some x ∧ v = .int (x : Nat) := by
  unfold natV at h
  rw [List.getElem?_map] at h
  cases e : k[i]? with
  | none =>
    rw [e] at h
    cases h
  | some x =>
    rw [e] at h
    exact ⟨x, rfl, (Option.some.inj h).symm⟩
end
def movB (xs ys : List Int) (i : Nat) : Bool := decide (xs.getD i 0 < ys.getD i 0)
def movL (xs ys : List Int) : List Nat := (List.range xs.length).filter (movB xs ys)
def leadB (xs ys : List Int) (r : Rope) : Bool := decide (r.f.toNat ∈ movL xs ys) && (decide (r.r.toNat ∈ movL xs ys) && decide (ys.getD r.f.toNat 0 - ys.getD r.r.toNat 0 = r.l))
def linkL (xs ys : List Int) (rs : List Rope) : Links2 := (rs.filter (leadB xs ys)).map fun r => (r.f.toNat, r.r.toNat)
theorem mem_mov {xs ys : List Int} {i : Nat} : i ∈ movL xs ys ↔ i < xs.length ∧ xs.getD i 0 < ys.getD i 0 := by
  unfold movL movB
  rw [List.mem_filter, List.mem_range, decide_eq_true_iff]
theorem mem_link {xs ys : List Int} {rs : List Rope} {p : Nat × Nat} : p ∈ linkL xs ys rs ↔ ∃ r ∈ rs, r.f.toNat = p.1 ∧ r.r.toNat = p.2 ∧ p.1 ∈ movL xs ys ∧ p.2 ∈ movL xs ys ∧ ys.getD p.1 0 - ys.getD p.2 0 = r.l := by
  unfold linkL
  rw [List.mem_map]
  constructor
  · rintro ⟨r, hr, rfl⟩
    obtain ⟨h1, h2⟩ := List.mem_filter.mp hr
    unfold leadB at h2
    rw [Bool.and_eq_true, Bool.and_eq_true, decide_eq_true_iff, decide_eq_true_iff, decide_eq_true_iff] at h2
    exact ⟨r, h1, rfl, rfl, h2.1, h2.2.1, h2.2.2⟩
  · rintro ⟨r, hr, h1, h2, h3, h4, h5⟩
    refine ⟨r, List.mem_filter.mpr ⟨hr, ?_⟩, by rw [h1, h2]⟩
    unfold leadB
    rw [Bool.and_eq_true, Bool.and_eq_true, decide_eq_true_iff, decide_eq_true_iff, decide_eq_true_iff, h1, h2]
    exact ⟨h3, h4, h5⟩
theorem link_in {xs ys : List Int} {rs : List Rope} : ∀ p ∈ linkL xs ys rs, p.1 ∈ movL xs ys ∧ p.2 ∈ movL xs ys := fun p hp => by
  obtain ⟨r, _, _, _, h1, h2, _⟩ := mem_link.mp hp
  exact ⟨h1, h2⟩
theorem linkL_len (xs ys : List Int) (rs : List Rope) : (linkL xs ys rs).length ≤ rs.length := by
  unfold linkL
  rw [List.length_map]
  exact List.length_filter_le _ _
theorem mov_len (xs ys : List Int) : (movL xs ys).length ≤ xs.length := by
  unfold movL
  exact Nat.le_trans (List.length_filter_le _ _) (by rw [List.length_range]; exact Nat.le_refl _)
theorem nodup_le : ∀ (n : Nat) (l : List Nat), l.Nodup → (∀ x ∈ l, x < n) → l.length ≤ n
  | 0, l, _, h => by
    cases l with
    | nil => exact Nat.le_refl _
    | cons x l => exact absurd (h x List.mem_cons_self) (Nat.not_lt_zero _)
  | n + 1, l, hn, h => by
    have h1 := nodup_le n (l.erase n) (hn.erase n) fun x hx => by
      have h2 := (hn.mem_erase_iff).mp hx
      have := h x h2.2
      omega
    rw [List.length_erase] at h1
    split at h1 <;> omega
section
variable {P : Program} {w : World} {K : PySem.W.Frag} {mg : Str → Option Value} {base : Heap}
end
end Hx

set_option Elab.async false
set_option linter.all false
set_option maxRecDepth 100000
set_option maxHeartbeats 4000000
namespace Hx
open PySem PySem.Spec PyProof.Rows L2
local macro_rules | `(tactic| walk_at "rd") => `(tactic| (try simp only [q_var, q_c, q_op, q_un, q_rI, q_rI0, q_rU, q_rEq, q_rNe, q_test, q_tB, q_and, q_or, q_not, q_andV, q_orV, q_notV, q_if, q_isN, q_notN, q_chain, q_next, q_seq, q_break, q_cont, q_drop, q_ret, q_retN, q_ifS, q_never, q_gN, q_gNil, q_gCons, q_gTup, q_gSub, q_asg, q_par, q_aug, q_nil, q_cons, q_tup, q_lst, q_call, q_cb, q_noPart, q_part, q_sl, q_bm0, q_bm, q_yes, q_for, q_lc, q_iList, q_iTup, q_iRng1, q_iEnumT, q_iEnum, q_iRng2, q_iZipA, q_iZipM, q_ipI, q_ckw, q_len, q_listOf, q_tupleOf, L2.start, cx_K, wipe, List.map_cons, List.map_nil, List.length_cons, List.length_nil, List.cons_append, List.nil_append, List.append_nil, List.replicate, List.getElem?_cons_zero, List.getElem?_cons_succ, List.set_cons_zero, List.set_cons_succ, Option.some.injEq, List.cons.injEq, exists_eq_left', exists_eq_left, exists_and_left, V.int.injEq, V.bl.injEq, V.ref.injEq, if_true, if_false, Bool.not_true, Bool.not_false, true_and, and_true, Bool.false_eq_true, ite_true, ite_false, Nat.reduceAdd, Nat.reduceSub, reduceCtorEq, decide_false, decide_true, Int.toNat_natCast, false_and, exists_false, or_false, false_or]))
section
variable {K : PySem.W.Frag} {H : Hp}
theorem RopesX.app {xs ys : List V} {rs qs : List Rope} (h : RopesX K H xs rs) (k : RopesX K H ys qs) : RopesX K H (xs ++ ys) (rs ++ qs) := by
  refine ⟨by rw [List.length_append, List.length_append, h.1, k.1], fun i r hr => ?_⟩
  by_cases hi : i < rs.length
  · rw [List.getElem?_append_left hi] at hr
    rw [List.getElem?_append_left (by rw [h.1]; exact hi)]
    exact h.2 i r hr
  · rw [List.getElem?_append_right (by omega)] at hr
    rw [List.getElem?_append_right (by rw [h.1]; omega), h.1]
    exact k.2 _ r hr
theorem RopesX.drop {xs : List V} {rs : List Rope} (h : RopesX K H xs rs) (k : Nat) : RopesX K H (xs.drop k) (rs.drop k) := by
  refine ⟨by rw [List.length_drop, List.length_drop, h.1], fun i r hr => ?_⟩
  rw [List.getElem?_drop] at hr ⊢
  exact h.2 _ r hr
theorem RopesX.del {xs : List V} {rs : List Rope} (h : RopesX K H xs rs) (k : Nat) : RopesX K H (xs.take k ++ xs.drop (k + 1)) (delR rs k) := (h.take k).app (h.drop (k + 1))
theorem FleetOk.sub {n : Nat} {rs qs : List Rope} (h : FleetOk n rs) (hl : qs.length ≤ rs.length) (hs : ∀ r ∈ qs, r ∈ rs) : FleetOk n qs := ⟨h.1, h.2.1, Nat.le_trans hl h.2.2.1, fun r hr => h.2.2.2 r (hs r hr)⟩
theorem FleetOk.inn {n : Nat} {rs : List Rope} (h : FleetOk n rs) : InN n rs := fun r hr => RopeOk.ix (h.2.2.2 r hr)
theorem FleetOk.del {n : Nat} {rs : List Rope} (h : FleetOk n rs) (k : Nat) : FleetOk n (delR rs k) := h.sub (del_len rs k) del_sub
theorem FleetV.x {v : V} {n : Int} {rs : List Rope} (h : FleetV K H v n rs) : ∃ a b xs, v = .ref a ∧ SqT K H a [.int n, .ref b] ∧ SqT K H b xs ∧ RopesX K H xs rs := h
theorem FleetV.mkx {a b : Addr} {xs : List V} {n : Int} {rs : List Rope} (h1 : SqT K H a [.int n, .ref b]) (h2 : SqT K H b xs) (h3 : RopesX K H xs rs) : FleetV K H (.ref a) n rs := ⟨a, b, xs, rfl, h1, h2, h3⟩
theorem RopesX.rat {b : Addr} {xs : List V} {rs : List Rope} (h : RopesX K H xs rs) (hb : SqT K H b xs) : RopesAt K H b rs := ⟨xs, hb, h⟩
end
section
variable {P : Program} {w : World} {K : PySem.W.Frag} {mg : Str → Option Value} {base : Heap}
def s_without_rope : Stmt := topS 44
abbrev n_without_rope : List Str := ["fleet", "index", "count", "ropes"]
abbrev p_without_rope : List Str := ["fleet", "index"]
theorem sc_without_rope : FnScope n_without_rope p_without_rope (defScope s_without_rope) := ⟨rfl, rfl, rfl, by decide +kernel, rfl, by decide +kernel, by decide +kernel⟩
def sp_without_rope (K : PySem.W.Frag) : Sp := fun vs H Q _ => ∃ (v : V) (n : Nat) (rs : List Rope) (i : Nat), vs = [v, .int i] ∧ FleetV K H v n rs ∧ rs.length ≤ 40 ∧ ∀ H' r, Same H H' → FleetV K H' r n (delR rs i) → Q r H'
theorem df_without_rope (T : Here K mg "without_rope" s_without_rope) : Df P w K mg base CX0 "without_rope" 1 p_without_rope (sp_without_rope K) := by
  refine T.df sc_without_rope (fun _ _ _ _ _ _ us hl => match us, hl with | [_, _], _ => rfl) (fun vs H Q E h => by obtain ⟨_, _, _, _, rfl, _⟩ := h; rfl) (fun f cdv A outer s H vs Q E hr h => ?_)
  obtain ⟨v, n, rs, i, rfl, hv, h40, q⟩ := h
  refine ⟨_, pss_cons (ps_asg (pv 0) (pgTup K rfl (n := 2) rfl (pgs_cons (pg_name (i := 2) sc_without_rope.nd rfl (by first | exact Or.inl rfl | exact Or.inr rfl)) (pgs_cons (pg_name (i := 3) sc_without_rope.nd rfl (by first | exact Or.inl rfl | exact Or.inr rfl)) pgs_nil))))
      (pss_one (ps_ret (pe_tup (pa_cons (pv 2) (pa_cons (pe_op (catA K rfl) (pe_slice (slA K rfl) (pv 3) po_none (po_some (pv 1))) (pe_slice (slA K rfl) (pv 3) (po_some (pe_op op_add (pv 1) (pe_int))) po_none)) pa_nil))))), ?_⟩
  have hz : 100 ≤ sizeLine := by decide
  obtain ⟨a, b, xs, rfl, ha, hb, hx⟩ := hv.x
  have hx1 := hx.1
  walk_at "rd"
  refine ⟨_, ha, rfl, ?_⟩
  walk_at "rd"
  refine sl_to hb fun m1 H1 s1 h1 => ?_
  have ei : ((i : Int) + 1) = ((i + 1 : Nat) : Int) := by omega
  rw [ei]
  refine sl_from (sqt_same s1 hb) fun m2 H2 s2 h2 => ?_
  refine cat_two (sqt_same s2 h1) h2 (by rw [List.length_take, List.length_drop]; omega) fun m3 H3 s3 h3 => ?_
  refine ⟨by omega, fun p hp => ?_⟩
  have s4 := same_upd (o := .tup [.int n, .ref m3]) hp
  have e := ((s1.trans s2).trans s3).trans s4
  exact q _ (.ref p) e (FleetV.mkx (.of upd_same) (sqt_same s4 h3) ((hx.del i).same e))
def s_is_redundant : Stmt := topS 43
abbrev n_is_redundant : List Str := ["fleet", "index"]
abbrev p_is_redundant : List Str := ["fleet", "index"]
theorem sc_is_redundant : FnScope n_is_redundant p_is_redundant (defScope s_is_redundant) := ⟨rfl, rfl, rfl, by decide +kernel, rfl, by decide +kernel, by decide +kernel⟩
def sp_is_redundant (K : PySem.W.Frag) : Sp := fun vs H Q _ => ∃ (v : V) (n : Nat) (rs : List Rope) (i : Nat), vs = [v, .int i] ∧ FleetV K H v n rs ∧ FleetOk n rs ∧ i < rs.length ∧ ∀ H', Same H H' → Q (.bl (redB n rs i)) H'
theorem df_is_redundant (T : Here K mg "is_redundant" s_is_redundant) (D_is_implied : Df P w K mg base CX0 "is_implied" 1 p_is_implied (sp_is_implied K)) (D_chain_table : Df P w K mg base CX0 "chain_table" 2 p_chain_table (sp_chain_table K))
    (D_without_rope : Df P w K mg base CX0 "without_rope" 1 p_without_rope (sp_without_rope K)) : Df P w K mg base CX0 "is_redundant" 3 p_is_redundant (sp_is_redundant K) := by
  refine T.df sc_is_redundant (fun _ _ _ _ _ _ us hl => match us, hl with | [_, _], _ => rfl) (fun vs H Q E h => by obtain ⟨_, _, _, _, rfl, _⟩ := h; rfl) (fun f cdv A outer s H vs Q E hr h => ?_)
  obtain ⟨v, n, rs, i, rfl, hv, hok, hi, q⟩ := h
  refine ⟨_, pss_one (ps_ret (D_is_implied.call (hr.mono (by decide)) (by rfl) (pa_cons (D_chain_table.call (hr.mono (by decide)) (by rfl) (pa_cons (D_without_rope.call (hr.mono (by decide)) (by rfl) (pa_cons (pv 0) (pa_cons (pv 1) pa_nil))) pa_nil)) (pa_cons (pe_ix (ixT K rfl) (pe_ix (ixT K rfl) (pv 0) (pe_int) (fun _ _ => rfl)) (pv 1) (fun _ _ => rfl)) pa_nil)))), ?_⟩
  walk_at "rd"
  refine ⟨v, n, rs, i, rfl, hv, hok.2.2.1, fun H1 r s1 hr1 => ?_⟩
  walk_at "rd"
  refine ⟨r, n, _, rfl, hr1, hok.del i, fun H2 t as tn => ?_⟩
  have s2 := s1.trans tn.same
  obtain ⟨a, b, rfl, ha, hb⟩ := (hv.mono s2).at
  have hri : rs[i]? = some rs[i] := List.getElem?_eq_getElem hi
  walk_at "rd"
  refine ⟨a, _, 1, _, rfl, rfl, ha, atI_nat (j := 1) rfl, hb.get hri fun c hc => ?_⟩
  refine ⟨t, as, n, _, _, rs[i], rfl, tn.tab, ⟨c, rfl, hc⟩, hok.2.2.2 _ (List.getElem_mem hi), ?_⟩
  have := q _ s2
  unfold redB at this
  rw [hri] at this
  exact this
def s_redundant_ropes : Stmt := topS 39
abbrev n_redundant_ropes : List Str := ["fleet", "index"]
abbrev p_redundant_ropes : List Str := ["fleet"]
theorem sc_redundant_ropes : FnScope n_redundant_ropes p_redundant_ropes (defScope s_redundant_ropes) := ⟨rfl, rfl, rfl, by decide +kernel, rfl, by decide +kernel, by decide +kernel⟩
def sp_redundant_ropes (K : PySem.W.Frag) : Sp := fun vs H Q _ => ∃ (v : V) (n : Nat) (rs : List Rope), vs = [v] ∧ FleetV K H v n rs ∧ FleetOk n rs ∧ Diag n (chainTab n rs) ∧ ∀ H' l, Same H H' → H' l = some (.lst (natV (redL n rs))) → Q (.ref l) H'
theorem df_redundant_ropes (T : Here K mg "redundant_ropes" s_redundant_ropes) (B : Blt mg) (D_check_fleet : Df P w K mg base CX0 "check_fleet" 4 p_check_fleet (sp_check_fleet K)) (D_check_table : Df P w K mg base CX0 "check_table" 1 p_check_table (sp_check_table K))
    (D_chain_table : Df P w K mg base CX0 "chain_table" 2 p_chain_table (sp_chain_table K)) (D_is_redundant : Df P w K mg base CX0 "is_redundant" 3 p_is_redundant (sp_is_redundant K)) : Df P w K mg base CX0 "redundant_ropes" 5 p_redundant_ropes (sp_redundant_ropes K) := by
  refine T.df sc_redundant_ropes (fun _ _ _ _ _ _ us hl => match us, hl with | [_], _ => rfl) (fun vs H Q E h => by obtain ⟨_, _, _, rfl, _⟩ := h; rfl) (fun f cdv A outer s H vs Q E hr h => ?_)
  obtain ⟨v, n, rs, rfl, hv, hok, hD, q⟩ := h
  refine ⟨_, pss_cons (ps_expr (D_check_fleet.call (hr.mono (by decide)) (by rfl) (pa_cons (pv 0) pa_nil)))
      (pss_cons (ps_expr (D_check_table.call (hr.mono (by decide)) (by rfl) (pa_cons (D_chain_table.call (hr.mono (by decide)) (by rfl) (pa_cons (pv 0) pa_nil)) pa_nil)))
      (pss_one (ps_ret (pe_lc (own := [("index", 1)]) rfl sc_redundant_ropes.nd (pi_range1 (by rfl) B.range (pa_cons (pe_callB (lenQ K rfl) (by rfl) B.len (by decide +kernel) (pa_cons (pe_ix (ixT K rfl) (pv 0) (pe_int) (fun _ _ => rfl)) pa_nil)) pa_nil)) (blkOk_by (N := n_redundant_ropes) (sc := defScope s_redundant_ropes) (by decide +kernel)) (fun _ _ _ _ _ => pg_name (i := 1) sc_redundant_ropes.nd rfl (by first | exact Or.inl rfl | exact Or.inr rfl)) (fun _ _ _ _ _ => pts_one (pt_val (D_is_redundant.call (hr.mono (by decide)) (by rfl) (pa_cons (pv 0) (pa_cons (pv 1) pa_nil))))) (fun _ _ _ _ _ => pv 1))))), ?_⟩
  have hz : 100 ≤ sizeLine := by decide
  have h40 := hok.2.2.1
  walk_at "rd"
  refine ⟨v, n, rs, rfl, hv, hok, fun H1 s1 => ?_⟩
  walk_at "rd"
  refine ⟨v, n, rs, rfl, hv.mono s1, hok, fun H2 t as tn => ?_⟩
  walk_at "rd"
  refine ⟨t, as, n, _, rfl, tn.tab, by have := hok.2.1; omega, hD, ?_⟩
  have s2 := s1.trans tn.same
  obtain ⟨a, b, xs, rfl, ha, hb, hx⟩ := (hv.mono s2).x
  walk_at "rd"
  refine ⟨a, _, 1, _, rfl, rfl, ha, atI_nat (j := 1) rfl, b, _, rfl, .inr hb, ?_⟩
  rw [hx.1]
  walk_at "rd"
  refine ⟨by omega, by omega, fun D hD' => ?_⟩
  refine lcRange (fun i H' => Same H2 H' ∧ H' D = some (.lst (natV ((List.range i).filter (redB n rs))))) ⟨same_upd hD', upd_same⟩ (fun i H' hi hPv => ?_) (fun H' hPv => ?_)
  · obtain ⟨e, hL⟩ := hPv
    have hfl : ((List.range i).filter (redB n rs)).length ≤ i := Nat.le_trans (List.length_filter_le _ _) (by rw [List.length_range]; exact Nat.le_refl _)
    rw [redL_succ]
    walk_at "rd"
    refine ⟨.ref a, n, rs, i, rfl, (hv.mono s2).mono e, hok, hi, fun H3 s3 => ?_⟩
    have hL3 := s3 _ _ hL
    have e3 := e.trans s3
    walk_at "rd"
    cases hb' : redB n rs i with
    | true =>
      simp only [ite_true]
      refine ⟨_, hL3, by rw [natV_len]; omega, fun z o hz' => ?_, ?_⟩
      · rw [upd_ne (ne_of_none hz' hD')]
        exact e3 z o hz'
      · rw [upd_same, natV_app]
        rfl
    | false =>
      simp only [Bool.false_eq_true, ite_false]
      exact ⟨e3, by rw [List.append_nil]; exact hL3⟩
  · obtain ⟨e, hL⟩ := hPv
    exact q _ D (s2.trans e) hL
def s_reduce_ropes : Stmt := topS 40
abbrev n_reduce_ropes : List Str := ["fleet", "reduced", "index"]
abbrev p_reduce_ropes : List Str := ["fleet"]
theorem sc_reduce_ropes : FnScope n_reduce_ropes p_reduce_ropes (defScope s_reduce_ropes) := ⟨rfl, rfl, rfl, by decide +kernel, rfl, by decide +kernel, by decide +kernel⟩
def sp_reduce_ropes (K : PySem.W.Frag) : Sp := fun vs H Q _ => ∃ (v : V) (n : Nat) (rs : List Rope), vs = [v] ∧ FleetV K H v n rs ∧ FleetOk n rs ∧ Diag n (chainTab n rs) ∧ ∀ H' r, Same H H' → FleetV K H' r n (redR n rs.length rs) → Q r H'
theorem df_reduce_ropes (T : Here K mg "reduce_ropes" s_reduce_ropes) (B : Blt mg) (B2 : Blt2 mg) (D_check_fleet : Df P w K mg base CX0 "check_fleet" 4 p_check_fleet (sp_check_fleet K)) (D_check_table : Df P w K mg base CX0 "check_table" 1 p_check_table (sp_check_table K))
    (D_chain_table : Df P w K mg base CX0 "chain_table" 2 p_chain_table (sp_chain_table K)) (D_is_redundant : Df P w K mg base CX0 "is_redundant" 3 p_is_redundant (sp_is_redundant K)) (D_without_rope : Df P w K mg base CX0 "without_rope" 1 p_without_rope (sp_without_rope K)) :
    Df P w K mg base CX0 "reduce_ropes" 5 p_reduce_ropes (sp_reduce_ropes K) := by
  refine T.df sc_reduce_ropes (fun _ _ _ _ _ _ us hl => match us, hl with | [_], _ => rfl) (fun vs H Q E h => by obtain ⟨_, _, _, rfl, _⟩ := h; rfl) (fun f cdv A outer s H vs Q E hr h => ?_)
  obtain ⟨v, n, rs, rfl, hv, hok, hD, q⟩ := h
  refine ⟨_, pss_cons (ps_expr (D_check_fleet.call (hr.mono (by decide)) (by rfl) (pa_cons (pv 0) pa_nil)))
      (pss_cons (ps_expr (D_check_table.call (hr.mono (by decide)) (by rfl) (pa_cons (D_chain_table.call (hr.mono (by decide)) (by rfl) (pa_cons (pv 0) pa_nil)) pa_nil)))
      (pss_cons (ps_set (i := 1) sc_reduce_ropes.nd rfl (by first | exact Or.inl rfl | exact Or.inr rfl) (pv 0))
      (pss_cons (ps_for PassesOwn.never rfl (pi_revR (by rfl) B2.reversed (prg_1 (by rfl) B.range (pe_callB (lenQ K rfl) (by rfl) B.len (by decide +kernel) (pa_cons (pe_ix (ixT K rfl) (pv 0) (pe_int) (fun _ _ => rfl)) pa_nil)))) (pg_name (i := 2) sc_reduce_ropes.nd rfl (by first | exact Or.inl rfl | exact Or.inr rfl)) (pss_one (ps_if (pt_val (D_is_redundant.call (hr.mono (by decide)) (by rfl) (pa_cons (pv 1) (pa_cons (pv 2) pa_nil)))) (pss_one (ps_set (i := 1) sc_reduce_ropes.nd rfl (by first | exact Or.inl rfl | exact Or.inr rfl) (D_without_rope.call (hr.mono (by decide)) (by rfl) (pa_cons (pv 1) (pa_cons (pv 2) pa_nil))))) (pss_nil))))
      (pss_one (ps_ret (pv 1)))))), ?_⟩
  have hz : 100 ≤ sizeLine := by decide
  have h40 := hok.2.2.1
  walk_at "rd"
  refine ⟨v, n, rs, rfl, hv, hok, fun H1 s1 => ?_⟩
  walk_at "rd"
  refine ⟨v, n, rs, rfl, hv.mono s1, hok, fun H2 t as tn => ?_⟩
  walk_at "rd"
  refine ⟨t, as, n, _, rfl, tn.tab, by have := hok.2.1; omega, hD, ?_⟩
  have s2 := s1.trans tn.same
  obtain ⟨a, b, xs, rfl, ha, hb, hx⟩ := (hv.mono s2).x
  walk_at "rd"
  simp only [iRevR, tRg1]
  walk_at "rd"
  refine ⟨a, _, 1, _, rfl, rfl, ha, atI_nat (j := 1) rfl, b, _, rfl, .inr hb, rs.length, by rw [hx.1], by omega, by omega, by omega, by omega, ?_⟩
  have e0 : (((rs.length : Int) - 0).toNat) = rs.length := by omega
  rw [e0]
  obtain ⟨W, eW⟩ : ∃ W : Nat → L2.St → Hp → Prop, W = fun i σ H' => ∃ (r : V) (x2 : Option V) (cur S : List Rope), σ = [some (.ref a), some r, x2] ∧ Same H2 H' ∧ FleetV K H' r n cur ∧ RedI n rs (rs.length - i) cur S ∧ redR n (rs.length - i) cur = redR n rs.length rs := ⟨_, rfl⟩
  have inr := hok.inn
  obtain ⟨y, hy⟩ := pot_of hD inr
  refine forW walk_rangeC W (by rw [eW]; exact ⟨_, _, rs, [], rfl, .refl _, hv.mono s2, ⟨by rw [Nat.sub_zero, List.take_length, List.append_nil], rfl, fun r h => h, Nat.le_refl _, fun S1 r S2 h => by simp at h⟩, rfl⟩) (fun _ _ _ _ _ => trivial) (fun i x σ H' H'' hi hPv hY => ?_) (fun σ H' hPv => ?_)
  · obtain ⟨rfl, rfl⟩ := hY
    rw [eW] at hPv
    obtain ⟨r, x2, cur, S, rfl, e, hvr, I, hrun⟩ := hPv
    obtain ⟨k, hk⟩ : ∃ k, rs.length - i = k + 1 := ⟨rs.length - i - 1, by omega⟩
    rw [hk] at I hrun
    have hkl : k < rs.length := by omega
    have hkc : k < cur.length := by
      rw [I.eq, List.length_append, List.length_take]
      omega
    have hix : (0 : Int) + (rs.length : Int) - 1 + (i : Nat) * (-1) = (k : Int) := by omega
    have hokc : FleetOk n cur := hok.sub I.len I.sub
    obtain ⟨S', I'⟩ := red_step hy inr hkl I
    have hrun' : redR n k (if redB n cur k = true then delR cur k else cur) = redR n rs.length rs := hrun
    have hki : rs.length - (i + 1) = k := by omega
    dsimp only
    rw [hix]
    walk_at "rd"
    refine ⟨r, n, cur, k, rfl, hvr, hokc, hkc, fun H3 s3 => ?_⟩
    walk_at "rd"
    cases hb' : redB n cur k with
    | true =>
      rw [hb', if_pos rfl] at I' hrun'
      simp only [ite_true]
      refine ⟨r, n, cur, k, rfl, hvr.mono s3, hokc.2.2.1, fun H4 r' s4 hr' => ?_⟩
      rw [eW]
      exact ⟨r', _, _, S', rfl, (e.trans s3).trans s4, hr', by rw [hki]; exact I', by rw [hki]; exact hrun'⟩
    | false =>
      rw [hb', if_neg Bool.false_ne_true] at I' hrun'
      simp only [Bool.false_eq_true, ite_false]
      rw [eW]
      exact ⟨r, _, _, S', rfl, e.trans s3, hvr.mono s3, by rw [hki]; exact I', by rw [hki]; exact hrun'⟩
  · rw [eW] at hPv
    obtain ⟨r, x2, cur, S, rfl, e, hvr, I, hrun⟩ := hPv
    rw [Nat.sub_self] at hrun
    have hrun : cur = redR n rs.length rs := hrun
    rw [hrun] at hvr
    walk_at "rd"
    exact q _ r (s2.trans e) hvr
def s_missing_rope : Stmt := topS 41
abbrev n_missing_rope : List Str := ["fleet", "other", "table", "index", "rope"]
abbrev p_missing_rope : List Str := ["fleet", "other"]
theorem sc_missing_rope : FnScope n_missing_rope p_missing_rope (defScope s_missing_rope) := ⟨rfl, rfl, rfl, by decide +kernel, rfl, by decide +kernel, by decide +kernel⟩
def sp_missing_rope (K : PySem.W.Frag) : Sp := fun vs H Q _ => ∃ (v u : V) (n : Nat) (rs qs : List Rope), vs = [v, u] ∧ FleetV K H v n rs ∧ FleetOk n rs ∧ FleetV K H u n qs ∧ FleetOk n qs ∧ Diag n (chainTab n rs) ∧
  ((∀ r ∈ qs, impD (chainTab n rs) r = true) → ∀ H', Same H H' → Q .non H') ∧ (∀ i r, qs[i]? = some r → impD (chainTab n rs) r = false → (∀ j q, j < i → qs[j]? = some q → impD (chainTab n rs) q = true) → ∀ H', Same H H' → Q (.int (i : Nat)) H')
theorem df_missing_rope (T : Here K mg "missing_rope" s_missing_rope) (B : Blt mg) (D_check_fleet : Df P w K mg base CX0 "check_fleet" 4 p_check_fleet (sp_check_fleet K)) (D_check_table : Df P w K mg base CX0 "check_table" 1 p_check_table (sp_check_table K))
    (D_chain_table : Df P w K mg base CX0 "chain_table" 2 p_chain_table (sp_chain_table K)) (D_is_implied : Df P w K mg base CX0 "is_implied" 1 p_is_implied (sp_is_implied K)) : Df P w K mg base CX0 "missing_rope" 5 p_missing_rope (sp_missing_rope K) := by
  refine T.df sc_missing_rope (fun _ _ _ _ _ _ us hl => match us, hl with | [_, _], _ => rfl) (fun vs H Q E h => by obtain ⟨_, _, _, _, _, rfl, _⟩ := h; rfl) (fun f cdv A outer s H vs Q E hr h => ?_)
  obtain ⟨v, u, n, rs, qs, rfl, hv, hok, hu, hok2, hD, q1, q2⟩ := h
  refine ⟨_, pss_cons (ps_expr (D_check_fleet.call (hr.mono (by decide)) (by rfl) (pa_cons (pv 0) pa_nil)))
      (pss_cons (ps_expr (D_check_fleet.call (hr.mono (by decide)) (by rfl) (pa_cons (pv 1) pa_nil)))
      (pss_cons (ps_if (pt_cmpR op_ne (pe_ix (ixT K rfl) (pv 0) (pe_int) (fun _ _ => rfl)) (pe_ix (ixT K rfl) (pv 1) (pe_int) (fun _ _ => rfl)) (nomark _)) (pss_one (ps_never)) (pss_nil))
      (pss_cons (ps_set (i := 2) sc_missing_rope.nd rfl (by first | exact Or.inl rfl | exact Or.inr rfl) (D_chain_table.call (hr.mono (by decide)) (by rfl) (pa_cons (pv 0) pa_nil)))
      (pss_cons (ps_expr (D_check_table.call (hr.mono (by decide)) (by rfl) (pa_cons (pv 2) pa_nil)))
      (pss_cons (ps_for PassesOwn.never rfl (pi_enumT (by rfl) B.enumerate (pa_cons (pe_ix (ixT K rfl) (pv 1) (pe_int) (fun _ _ => rfl)) pa_nil)) (pgTup K rfl (n := 2) rfl (pgs_cons (pg_name (i := 3) sc_missing_rope.nd rfl (by first | exact Or.inl rfl | exact Or.inr rfl)) (pgs_cons (pg_name (i := 4) sc_missing_rope.nd rfl (by first | exact Or.inl rfl | exact Or.inr rfl)) pgs_nil))) (pss_one (ps_if (pt_not (pt_val (D_is_implied.call (hr.mono (by decide)) (by rfl) (pa_cons (pv 2) (pa_cons (pv 4) pa_nil))))) (pss_one (ps_ret (pv 3))) (pss_nil))))
      (pss_one (ps_ret (pe_non)))))))), ?_⟩
  walk_at "rd"
  refine ⟨v, n, rs, rfl, hv, hok, fun H1 s1 => ?_⟩
  walk_at "rd"
  refine ⟨u, n, qs, rfl, hu.mono s1, hok2, fun H2 s2 => ?_⟩
  have s2 := s1.trans s2
  obtain ⟨a, b, xs, rfl, ha, hb, hx⟩ := (hv.mono s2).x
  obtain ⟨a2, b2, xs2, rfl, ha2, hb2, hx2⟩ := (hu.mono s2).x
  walk_at "rd"
  refine ⟨a, _, 0, _, rfl, rfl, ha, atI_nat (j := 0) rfl, a2, _, 0, _, rfl, rfl, ha2, atI_nat (j := 0) rfl, ?_⟩
  walk_at "rd"
  refine ⟨rfl, .ref a, n, rs, rfl, hv.mono s2, hok, fun H3 t as tn => ?_⟩
  have s3 := s2.trans tn.same
  have hb2 := sqt_same tn.same hb2
  have ha2 := sqt_same tn.same ha2
  have hx2 := hx2.same tn.same
  refine ⟨t, as, n, _, rfl, tn.tab, by have := hok.2.1; omega, hD, ?_⟩
  refine ⟨a2, _, 1, _, rfl, rfl, ha2, atI_nat (j := 1) rfl, b2, rfl, ⟨_, hb2⟩, ?_⟩
  obtain ⟨W, eW⟩ : ∃ W : Nat → L2.St → Hp → Prop, W = fun i σ H' => ∃ x3 x4, σ = [some (.ref a), some (.ref a2), some (.ref t), x3, x4] ∧ Same H3 H' ∧ ∀ j q, j < i → qs[j]? = some q → impD (chainTab n rs) q = true := ⟨_, rfl⟩
  refine forEnumT (xs := xs2) W (by rw [eW]; exact ⟨_, _, rfl, .refl _, fun j q h => absurd h (Nat.not_lt_zero j)⟩) (fun i σ H' _ hPv => ?_) (fun i x T σ H' hx' hPv hT => ?_) (fun σ H' hPv => ?_) <;> rw [eW] at hPv
  · obtain ⟨_, _, _, e, _⟩ := hPv
    exact sqt_same e hb2
  · obtain ⟨x3, x4, rfl, e, done⟩ := hPv
    have hi : i < qs.length := by
      rw [← hx2.1]
      exact (List.getElem?_eq_some_iff.mp hx').1
    have hqi : qs[i]? = some qs[i] := List.getElem?_eq_getElem hi
    obtain ⟨z, hz1, hzv⟩ := hx2.2 i qs[i] hqi
    cases hx'.symm.trans hz1
    have sT := same_upd (o := .tup [V.int i, x]) hT
    have eT := e.trans sT
    walk_at "rd"
    refine ⟨_, .of upd_same, rfl, ?_⟩
    walk_at "rd"
    refine ⟨t, as, n, _, x, qs[i], rfl, tn.tab.mono eT, hzv.mono eT, hok2.2.2.2 _ (List.getElem_mem hi), ?_⟩
    walk_at "rd"
    cases hb' : impD (chainTab n rs) qs[i] with
    | true =>
      simp only [Bool.not_true, Bool.false_eq_true, ite_false]
      rw [eW]
      refine ⟨_, _, rfl, eT, fun j q hj hq => ?_⟩
      by_cases hji : j = i
      · rw [hji, hqi] at hq
        cases hq
        exact hb'
      · exact done j q (by omega) hq
    | false =>
      simp only [Bool.not_false, ite_true]
      exact q2 i _ hqi hb' done _ (s3.trans eT)
  · obtain ⟨x3, x4, rfl, e, done⟩ := hPv
    rw [hx2.1] at done
    walk_at "rd"
    refine q1 (fun r hr => ?_) _ (s3.trans e)
    obtain ⟨j, hj⟩ := List.mem_iff_getElem?.mp hr
    exact done j r (List.getElem?_eq_some_iff.mp hj).1 hj
def s_rearmost_positions : Stmt := topS 45
abbrev n_rearmost_positions : List Str := ["table", "positions", "barge"]
abbrev p_rearmost_positions : List Str := ["table"]
theorem sc_rearmost_positions : FnScope n_rearmost_positions p_rearmost_positions (defScope s_rearmost_positions) := ⟨rfl, rfl, rfl, by decide +kernel, rfl, by decide +kernel, by decide +kernel⟩
def sp_rearmost_positions (K : PySem.W.Frag) : Sp := fun vs H Q _ => ∃ (t : Addr) (as : List Addr) (n : Nat) (d : Tab), vs = [.ref t] ∧ TabAt H t as n d ∧ 1 ≤ n ∧ n ≤ 8 ∧ ∀ H' r, Same H H' → IntsT K H' r (rearD d n n) → Q r H'
theorem df_rearmost_positions (T : Here K mg "rearmost_positions" s_rearmost_positions) (B : Blt mg) (D_move_barge : Df P w K mg base CX0 "move_barge" 1 p_move_barge (sp_move_barge K)) : Df P w K mg base CX0 "rearmost_positions" 2 p_rearmost_positions (sp_rearmost_positions K) := by
  refine T.df sc_rearmost_positions (fun _ _ _ _ _ _ us hl => match us, hl with | [_], _ => rfl) (fun vs H Q E h => by obtain ⟨_, _, _, _, rfl, _⟩ := h; rfl) (fun f cdv A outer s H vs Q E hr h => ?_)
  obtain ⟨t, as, n, d, rfl, ht, h1, h8, q⟩ := h
  refine ⟨_, pss_cons (ps_set (i := 1) sc_rearmost_positions.nd rfl (by first | exact Or.inl rfl | exact Or.inr rfl) (pe_op (repTA K rfl) (pe_tup (pa_cons (pe_int) pa_nil)) (pe_callB (lenQ K rfl) (by rfl) B.len (by decide +kernel) (pa_cons (pv 0) pa_nil))))
      (pss_cons (ps_for PassesOwn.never rfl (pi_range1 (by rfl) B.range (pa_cons (pe_callB (lenQ K rfl) (by rfl) B.len (by decide +kernel) (pa_cons (pv 0) pa_nil)) pa_nil)) (pg_name (i := 2) sc_rearmost_positions.nd rfl (by first | exact Or.inl rfl | exact Or.inr rfl)) (pss_one (ps_set (i := 1) sc_rearmost_positions.nd rfl (by first | exact Or.inl rfl | exact Or.inr rfl) (D_move_barge.call (hr.mono (by decide)) (by rfl) (pa_cons (pv 0) (pa_cons (pv 1) (pa_cons (pv 2) (pa_cons (pe_int) pa_nil))))))))
      (pss_one (ps_ret (pv 1)))), ?_⟩
  have hz : 100 ≤ sizeLine := by decide
  walk_at "rd"
  refine ⟨by omega, fun p0 hp0 => ?_⟩
  have s0 := same_upd (o := .tup [V.int 0]) hp0
  have ht := ht.mono s0
  walk_at "rd"
  have main : ∀ (p1 : Addr) (H1 : Hp), Same (upd H p0 (.tup [V.int 0])) H1 → SqT K H1 p1 ((rearD d n 0).map V.int) → ForW (Itr 0 n) (gName 2) (tAsg (tCall (sp_move_barge K) [] E0 (tCons (tVar 0) (tCons (tVar 1) (tCons (tVar 2) (tCons (tC (V.int 0)) tNil))))) (gName 1))
      { nx := tRet (tVar 1) { nx := fun x H' => Q V.non H', rt := Q }, rt := Q } [some (V.ref t), some (V.ref p1), none] H1 := by
    intro p1 H1 e1 h1'
    obtain ⟨W, eW⟩ : ∃ W : Nat → L2.St → Hp → Prop, W = fun i σ H' => ∃ (r : V) (x2 : Option V), σ = [some (.ref t), some r, x2] ∧ Same (upd H p0 (.tup [V.int 0])) H' ∧ IntsT K H' r (rearD d n i) := ⟨_, rfl⟩
    refine forRange W (by rw [eW]; exact ⟨_, _, rfl, e1, p1, rfl, h1'⟩) (fun i σ H' hi hPv => ?_) (fun σ H' hPv => ?_) <;> rw [eW] at hPv
    · obtain ⟨r, x2, rfl, e, hr'⟩ := hPv
      walk_at "rd"
      refine ⟨t, as, n, d, r, _, i, 0, rfl, ht.mono e, hr', rearD_len d n i, hi, h8, fun H3 a s3 _ ha => ?_⟩
      rw [eW]
      exact ⟨_, _, rfl, e.trans s3, a, rfl, .of ha⟩
    · obtain ⟨r, x2, rfl, e, hr'⟩ := hPv
      walk_at "rd"
      exact q _ r (s0.trans e) hr'
  refine ⟨_, .inl (.of ht.top), ?_⟩
  rw [List.length_map, ht.len]
  refine ⟨p0, n, _, rfl, rfl, .of upd_same, by simp, by omega, by omega, by show 1 ≤ 1000; omega, fun h => ?_, fun h p1 hp1 => ?_⟩
  · refine ⟨_, .inl (.of ht.top), ?_⟩
    rw [List.length_map, ht.len]
    refine ⟨by omega, by omega, main p0 _ (.refl _) ?_⟩
    have : n = 1 := by omega
    subst this
    exact .of upd_same
  · have s1 := same_upd (o := .tup (List.replicate (n : Int).toNat [V.int 0]).flatten) hp1
    refine ⟨_, .inl (.of (ht.mono s1).top), ?_⟩
    rw [List.length_map, ht.len]
    refine ⟨by omega, by omega, main p1 _ s1 ?_⟩
    have e : (rearD d n 0).map V.int = (List.replicate (n : Int).toNat [V.int 0]).flatten := by
      rw [Int.toNat_natCast]
      show (List.replicate n (0 : Int)).map V.int = _
      rw [List.map_replicate]
      exact (rep_flat n _).symm
    rw [e]
    exact .of upd_same
def s_counterexample : Stmt := topS 38
abbrev n_counterexample : List Str := ["fleet", "rope", "table", "front", "rear", "length", "positions", "target"]
abbrev p_counterexample : List Str := ["fleet", "rope"]
theorem sc_counterexample : FnScope n_counterexample p_counterexample (defScope s_counterexample) := ⟨rfl, rfl, rfl, by decide +kernel, rfl, by decide +kernel, by decide +kernel⟩
def sp_counterexample (K : PySem.W.Frag) : Sp := fun vs H Q _ => ∃ (v u : V) (n : Nat) (rs : List Rope) (r : Rope), vs = [v, u] ∧ FleetV K H v n rs ∧ FleetOk n rs ∧ RopeV K H u r ∧ RopeOk n r ∧ Diag n (chainTab n rs) ∧
  (impD (chainTab n rs) r = true → ∀ H', Same H H' → Q .non H') ∧ (impD (chainTab n rs) r = false → ∀ H' a, Same H H' → IntsT K H' (.ref a) (ctrD (chainTab n rs) n r) → Q (.ref a) H')
theorem df_counterexample (T : Here K mg "counterexample" s_counterexample) (B : Blt mg) (D_check_fleet : Df P w K mg base CX0 "check_fleet" 4 p_check_fleet (sp_check_fleet K)) (D_check_rope : Df P w K mg base CX0 "check_rope" 4 p_check_rope (sp_check_rope K))
    (D_chain_table : Df P w K mg base CX0 "chain_table" 2 p_chain_table (sp_chain_table K)) (D_check_table : Df P w K mg base CX0 "check_table" 1 p_check_table (sp_check_table K)) (D_is_implied : Df P w K mg base CX0 "is_implied" 1 p_is_implied (sp_is_implied K))
    (D_rearmost_positions : Df P w K mg base CX0 "rearmost_positions" 2 p_rearmost_positions (sp_rearmost_positions K)) (D_move_barge : Df P w K mg base CX0 "move_barge" 1 p_move_barge (sp_move_barge K)) :
    Df P w K mg base CX0 "counterexample" 5 p_counterexample (sp_counterexample K) := by
  refine T.df sc_counterexample (fun _ _ _ _ _ _ us hl => match us, hl with | [_, _], _ => rfl) (fun vs H Q E h => by obtain ⟨_, _, _, _, _, rfl, _⟩ := h; rfl) (fun f cdv A outer s H vs Q E hr h => ?_)
  obtain ⟨v, u, n, rs, r, rfl, hv, hok, hu, hr1, hD, q1, q2⟩ := h
  refine ⟨_, pss_cons (ps_expr (D_check_fleet.call (hr.mono (by decide)) (by rfl) (pa_cons (pv 0) pa_nil)))
      (pss_cons (ps_expr (D_check_rope.call (hr.mono (by decide)) (by rfl) (pa_cons (pv 0) (pa_cons (pv 1) pa_nil))))
      (pss_cons (ps_set (i := 2) sc_counterexample.nd rfl (by first | exact Or.inl rfl | exact Or.inr rfl) (D_chain_table.call (hr.mono (by decide)) (by rfl) (pa_cons (pv 0) pa_nil)))
      (pss_cons (ps_expr (D_check_table.call (hr.mono (by decide)) (by rfl) (pa_cons (pv 2) pa_nil)))
      (pss_cons (ps_if (pt_val (D_is_implied.call (hr.mono (by decide)) (by rfl) (pa_cons (pv 2) (pa_cons (pv 1) pa_nil)))) (pss_one (ps_ret (pe_non))) (pss_nil))
      (pss_cons (ps_asg (pv 1) (pgTup K rfl (n := 3) rfl (pgs_cons (pg_name (i := 3) sc_counterexample.nd rfl (by first | exact Or.inl rfl | exact Or.inr rfl)) (pgs_cons (pg_name (i := 4) sc_counterexample.nd rfl (by first | exact Or.inl rfl | exact Or.inr rfl)) (pgs_cons (pg_name (i := 5) sc_counterexample.nd rfl (by first | exact Or.inl rfl | exact Or.inr rfl)) pgs_nil)))))
      (pss_cons (ps_set (i := 6) sc_counterexample.nd rfl (by first | exact Or.inl rfl | exact Or.inr rfl) (D_rearmost_positions.call (hr.mono (by decide)) (by rfl) (pa_cons (pv 2) pa_nil)))
      (pss_cons (ps_set (i := 7) sc_counterexample.nd rfl (by first | exact Or.inl rfl | exact Or.inr rfl) (pe_callB (call_max2 rfl) (by rfl) B.max (by decide +kernel) (pa_cons (pe_ix (ixT K rfl) (pv 6) (pv 3) (fun _ _ => rfl)) (pa_cons (pe_op op_add (pe_op op_add (pe_ix (ixT K rfl) (pv 6) (pv 4) (fun _ _ => rfl)) (pv 5)) (pe_int)) pa_nil))))
      (pss_one (ps_ret (D_move_barge.call (hr.mono (by decide)) (by rfl) (pa_cons (pv 2) (pa_cons (pv 6) (pa_cons (pv 3) (pa_cons (pv 7) pa_nil)))))))))))))), ?_⟩
  have n1 : 1 ≤ n := by have := hok.1; omega
  have n8 : n ≤ 8 := by have := hok.2.1; omega
  obtain ⟨i1, i2⟩ := RopeOk.ix hr1
  walk_at "rd"
  refine ⟨v, n, rs, rfl, hv, hok, fun H1 s1 => ?_⟩
  walk_at "rd"
  refine ⟨v, u, n, rs, r, rfl, hv.mono s1, hu.mono s1, hr1, ?_⟩
  walk_at "rd"
  refine ⟨v, n, rs, rfl, hv.mono s1, hok, fun H2 t as tn => ?_⟩
  have s2 := s1.trans tn.same
  walk_at "rd"
  refine ⟨t, as, n, _, rfl, tn.tab, n8, hD, ?_⟩
  walk_at "rd"
  refine ⟨t, as, n, _, u, r, rfl, tn.tab, hu.mono s2, hr1, ?_⟩
  walk_at "rd"
  cases hb' : impD (chainTab n rs) r with
  | true =>
    simp only [ite_true]
    exact q1 hb' _ s2
  | false =>
    simp only [Bool.false_eq_true, ite_false]
    obtain ⟨fn, hfn⟩ := nat_at hr1.1
    obtain ⟨rn, hrn⟩ := nat_at hr1.2.2.1
    obtain ⟨c, rfl, hc⟩ := hu.mono s2
    rw [hfn, hrn] at hc
    refine ⟨c, rfl, _, hc, rfl, ?_⟩
    walk_at "rd"
    refine ⟨t, as, n, _, rfl, tn.tab, n1, n8, fun H3 x s3 hx => ?_⟩
    have hxl := rearD_len (chainTab n rs) n n
    have q2 := q2 hb'
    unfold ctrD at q2
    have fN : r.f.toNat = fn := by omega
    have rN : r.r.toNat = rn := by omega
    rw [fN] at i1
    rw [rN] at i2
    rw [fN, rN] at q2
    dsimp only
    obtain ⟨cx, rfl, hcx⟩ := id hx
    walk_at "rd"
    refine ⟨cx, _, fn, _, rfl, rfl, hcx, atI_nat (at_ints (by omega)), cx, _, rn, _, rfl, rfl, hcx, atI_nat (at_ints (by omega)), ?_⟩
    walk_at "rd"
    refine ⟨_, _, ⟨rfl, rfl⟩, ?_⟩
    refine ⟨t, as, n, _, _, _, fn, _, rfl, tn.tab.mono s3, hx, hxl, i1, n8, fun H4 a s4 _ ha => ?_⟩
    exact q2 _ a ((s2.trans s3).trans s4) ⟨a, rfl, .of ha⟩
def s_broken_ropes : Stmt := topS 25
abbrev n_broken_ropes : List Str := ["fleet", "positions"]
abbrev p_broken_ropes : List Str := ["fleet", "positions"]
theorem sc_broken_ropes : FnScope n_broken_ropes p_broken_ropes (defScope s_broken_ropes) := ⟨rfl, rfl, rfl, by decide +kernel, rfl, by decide +kernel, by decide +kernel⟩
def sp_broken_ropes (K : PySem.W.Frag) : Sp := fun vs H Q _ => ∃ (v u : V) (n : Nat) (rs : List Rope) (xs : List Int), vs = [v, u] ∧ FleetV K H v n rs ∧ FleetOk n rs ∧ IntsT K H u xs ∧ xs.length = n ∧ InRange xs ∧ Valid xs rs ∧ ∀ H' p, Same H H' → H' p = some (.lst []) → Q (.ref p) H'
theorem df_broken_ropes (T : Here K mg "broken_ropes" s_broken_ropes) (D_check_fleet : Df P w K mg base CX0 "check_fleet" 4 p_check_fleet (sp_check_fleet K)) (D_check_positions : Df P w K mg base CX0 "check_positions" 3 p_check_positions (sp_check_positions K))
    (D_unsatisfied_ropes : Df P w K mg base CX0 "unsatisfied_ropes" 1 p_unsatisfied_ropes (sp_unsatisfied_ropes K)) : Df P w K mg base CX0 "broken_ropes" 5 p_broken_ropes (sp_broken_ropes K) := by
  refine T.df sc_broken_ropes (fun _ _ _ _ _ _ us hl => match us, hl with | [_, _], _ => rfl) (fun vs H Q E h => by obtain ⟨_, _, _, _, _, rfl, _⟩ := h; rfl) (fun f cdv A outer s H vs Q E hr h => ?_)
  obtain ⟨v, u, n, rs, xs, rfl, hv, hok, hu, hn, hir, hva, q⟩ := h
  refine ⟨_, pss_cons (ps_expr (D_check_fleet.call (hr.mono (by decide)) (by rfl) (pa_cons (pv 0) pa_nil)))
      (pss_cons (ps_expr (D_check_positions.call (hr.mono (by decide)) (by rfl) (pa_cons (pv 0) (pa_cons (pv 1) pa_nil))))
      (pss_one (ps_ret (D_unsatisfied_ropes.call (hr.mono (by decide)) (by rfl) (pa_cons (pv 0) (pa_cons (pv 1) pa_nil)))))), ?_⟩
  walk_at "rd"
  refine ⟨v, n, rs, rfl, hv, hok, fun H1 s1 => ?_⟩
  walk_at "rd"
  refine ⟨v, u, n, rs, xs, rfl, hv.mono s1, hu.mono s1, by rw [hn], hir, fun H2 s2 => ?_⟩
  have s2 := s1.trans s2
  walk_at "rd"
  exact ⟨v, u, n, rs, xs, rfl, hv.mono s2, hu.mono s2, by rw [hn], hok.2.2.2, hva, fun H3 p s3 _ hp => q _ p (s2.trans s3) hp⟩
end
end Hx

set_option Elab.async false
set_option linter.all false
set_option maxRecDepth 100000
set_option maxHeartbeats 4000000
namespace Hx
open PySem PySem.Spec PyProof.Rows L2
local macro_rules | `(tactic| walk_at "rd") => `(tactic| (try simp only [q_var, q_c, q_op, q_un, q_rI, q_rI0, q_rU, q_rEq, q_rNe, q_test, q_tB, q_and, q_or, q_not, q_andV, q_orV, q_notV, q_if, q_isN, q_notN, q_chain, q_next, q_seq, q_break, q_cont, q_drop, q_ret, q_retN, q_ifS, q_never, q_gN, q_gNil, q_gCons, q_gTup, q_gSub, q_asg, q_par, q_aug, q_nil, q_cons, q_tup, q_lst, q_call, q_cb, q_noPart, q_part, q_sl, q_bm0, q_bm, q_yes, q_for, q_lc, q_iList, q_iTup, q_iRng1, q_iEnumT, q_iEnum, q_iRng2, q_iZipA, q_iZipM, q_ipI, q_ckw, q_len, q_listOf, q_tupleOf, L2.start, cx_K, wipe, List.map_cons, List.map_nil, List.length_cons, List.length_nil, List.cons_append, List.nil_append, List.append_nil, List.replicate, List.getElem?_cons_zero, List.getElem?_cons_succ, List.set_cons_zero, List.set_cons_succ, Option.some.injEq, List.cons.injEq, exists_eq_left', exists_eq_left, exists_and_left, V.int.injEq, V.bl.injEq, V.ref.injEq, if_true, if_false, Bool.not_true, Bool.not_false, true_and, and_true, Bool.false_eq_true, ite_true, ite_false, Nat.reduceAdd, Nat.reduceSub, reduceCtorEq, decide_false, decide_true, Int.toNat_natCast, false_and, exists_false, or_false, false_or]))
section
variable {g : TG} {σ : L2.St} {H : Hp} {n : Nat} {lo : Int} {tt : TT} {te : TE} {vs : List Nat} {p : Addr} {Qd : Hp → Prop}
theorem lcRange' (Pv : Nat → Hp → Prop) (h0 : Pv 0 (upd H p (.lst [])))
    (hs : ∀ (i : Nat) H, i < n → Pv i H → g (.int (lo + (i : Int))) (wipe σ vs) H fun σ2 H2 => wipe σ2 vs = wipe σ vs ∧ tt σ2 H2 fun b H3 =>
      if b = true then te σ2 H3 fun y H4 => ∃ acc, H4 p = some (.lst acc) ∧ acc.length < sizeLine ∧ Pv (i + 1) (upd H4 p (.lst (acc ++ [y]))) else Pv (i + 1) H3) (hd : ∀ H, Pv n H → Qd H) : LcW (Itr lo n) g tt te vs p σ H Qd :=
  lcW walk_range Pv h0 (fun _ _ _ _ => trivial) (fun i x H H' hi p y => by
    obtain ⟨rfl, rfl⟩ := y
    exact hs i H' hi p) hd
end
section
variable {P : Program} {w : World} {K : PySem.W.Frag} {mg : Str → Option Value} {base : Heap}
def s_count_placings : Stmt := topS 54
abbrev n_count_placings : List Str := ["table", "limit", "placed", "barge", "low", "high", "other", "position"]
abbrev p_count_placings : List Str := ["table", "limit", "placed"]
theorem sc_count_placings : FnScope n_count_placings p_count_placings (defScope s_count_placings) := ⟨rfl, rfl, rfl, by decide +kernel, rfl, by decide +kernel, by decide +kernel⟩
def spU (K : PySem.W.Frag) (M : Nat) : Sp := fun vs H Q _ => ∃ (t : Addr) (as : List Addr) (n : Nat) (d : Tab) (lim : Int) (u : V) (ps : List Int) (m : Nat), vs = [.ref t, .int lim, u] ∧ TabAt H t as n d ∧ IntsT K H u ps ∧ ps.length + m + 1 = n ∧ m < M ∧ n ≤ 8 ∧ 0 ≤ lim ∧ lim ≤ 12 ∧
  (∀ i, 0 ≤ gd ps i ∧ gd ps i ≤ 12) ∧ (∀ a c p, d a c = some p → -200 ≤ p) ∧ ∀ H', Same H H' → Q (.int (cntD d lim m ps)) H'
theorem gd_snoc (ps : List Int) (x : Int) (i : Nat) : gd (ps ++ [x]) i = gd ps i ∨ gd (ps ++ [x]) i = x := by
  unfold gd
  rw [List.getD_eq_getElem?_getD, List.getD_eq_getElem?_getD]
  by_cases h : i < ps.length
  · rw [List.getElem?_append_left h]
    exact .inl rfl
  · rw [List.getElem?_append_right (by omega)]
    by_cases h2 : i = ps.length
    · subst h2
      rw [Nat.sub_self]
      exact .inr rfl
    · refine .inl ?_
      rw [List.getElem?_eq_none (by show [x].length ≤ _; rw [List.length_singleton]; omega), List.getElem?_eq_none (by omega)]
theorem cnt_placings (T : Here K mg "count_placings" s_count_placings) (B : Blt mg) (B2 : Blt2 mg) : ∀ M, Df P w K mg base CX0 "count_placings" (M + 1) p_count_placings (spU K M)
  | 0 => T.df sc_count_placings (fun _ _ _ _ _ _ us hl => match us, hl with | [_, _, _], _ => rfl) (fun vs H Q E h => by obtain ⟨_, _, _, _, _, _, _, _, _, _, _, _, h, _⟩ := h; exact absurd h (Nat.not_lt_zero _)) (fun f cdv A outer s H vs Q E hr h => by obtain ⟨_, _, _, _, _, _, _, _, _, _, _, _, h, _⟩ := h; exact absurd h (Nat.not_lt_zero _))
  | M + 1 => by
    have D_count_placings := cnt_placings T B B2 M
    refine T.df sc_count_placings (fun _ _ _ _ _ _ us hl => match us, hl with | [_, _, _], _ => rfl) (fun vs H Q E h => by obtain ⟨_, _, _, _, _, _, _, _, rfl, _⟩ := h; rfl) (fun f cdv A outer s H vs Q E hr h => ?_)
    obtain ⟨t, as, n, d, lim, u, ps, m, rfl, ht, hu, hn, hm, n8, hl0, hl12, hps, hd, q⟩ := h
    refine ⟨_, pss_cons (ps_set (i := 3) sc_count_placings.nd rfl (by first | exact Or.inl rfl | exact Or.inr rfl) (pe_callB (lenQ K rfl) (by rfl) B.len (by decide +kernel) (pa_cons (pv 2) pa_nil)))
      (pss_cons (ps_set (i := 4) sc_count_placings.nd rfl (by first | exact Or.inl rfl | exact Or.inr rfl) (pe_int))
      (pss_cons (ps_set (i := 5) sc_count_placings.nd rfl (by first | exact Or.inl rfl | exact Or.inr rfl) (pv 1))
      (pss_cons (ps_for PassesOwn.never rfl (pi_enumT (by rfl) B.enumerate (pa_cons (pv 2) pa_nil)) (pgTup K rfl (n := 2) rfl (pgs_cons (pg_name (i := 6) sc_count_placings.nd rfl (by first | exact Or.inl rfl | exact Or.inr rfl)) (pgs_cons (pg_name (i := 7) sc_count_placings.nd rfl (by first | exact Or.inl rfl | exact Or.inr rfl)) pgs_nil))) (pss_cons (ps_if (pt_cmpR op_notN (pe_ix (ixL K rfl) (pe_ix (ixL K rfl) (pv 0) (pv 6) (fun _ _ => rfl)) (pv 3) (fun _ _ => rfl)) (pe_non) (nomark _)) (pss_one (ps_set (i := 4) sc_count_placings.nd rfl (by first | exact Or.inl rfl | exact Or.inr rfl) (pe_callB (call_max2 rfl) (by rfl) B.max (by decide +kernel) (pa_cons (pv 4) (pa_cons (pe_op op_sub (pv 7) (pe_ix (ixL K rfl) (pe_ix (ixL K rfl) (pv 0) (pv 6) (fun _ _ => rfl)) (pv 3) (fun _ _ => rfl))) pa_nil))))) (pss_nil))
      (pss_one (ps_if (pt_cmpR op_notN (pe_ix (ixL K rfl) (pe_ix (ixL K rfl) (pv 0) (pv 3) (fun _ _ => rfl)) (pv 6) (fun _ _ => rfl)) (pe_non) (nomark _)) (pss_one (ps_set (i := 5) sc_count_placings.nd rfl (by first | exact Or.inl rfl | exact Or.inr rfl) (pe_callB (call_min2 rfl) (by rfl) B.min (by decide +kernel) (pa_cons (pv 5) (pa_cons (pe_op op_add (pv 7) (pe_ix (ixL K rfl) (pe_ix (ixL K rfl) (pv 0) (pv 3) (fun _ _ => rfl)) (pv 6) (fun _ _ => rfl))) pa_nil))))) (pss_nil)))))
      (pss_cons (ps_if (pt_cmpR op_eq (pv 3) (pe_op op_sub (pe_callB (lenQ K rfl) (by rfl) B.len (by decide +kernel) (pa_cons (pv 0) pa_nil)) (pe_int)) (nomark _)) (pss_one (ps_ret (pe_callB (call_max2 rfl) (by rfl) B.max (by decide +kernel) (pa_cons (pe_int) (pa_cons (pe_op op_add (pe_op op_sub (pv 5) (pv 4)) (pe_int)) pa_nil))))) (pss_nil))
      (pss_one (ps_ret (pe_callB (sumQ K rfl rfl) (by rfl) B2.sum (by decide +kernel) (pa_cons (pe_lc (own := [("position", 7)]) rfl sc_count_placings.nd (pi_range2 (by rfl) B.range (pa_cons (pv 4) (pa_cons (pe_op op_add (pv 5) (pe_int)) pa_nil))) (blkOk_by (N := n_count_placings) (sc := defScope s_count_placings) (by decide +kernel)) (fun _ _ _ _ _ => pg_name (i := 7) sc_count_placings.nd rfl (by first | exact Or.inl rfl | exact Or.inr rfl)) (fun _ _ _ _ _ => pts_nil) (fun _ _ _ _ _ => D_count_placings.call hr (by rfl) (pa_cons (pv 0) (pa_cons (pv 1) (pa_cons (pe_op (catA K rfl) (pv 2) (pe_tup (pa_cons (pv 7) pa_nil))) pa_nil))))) pa_nil)))))))), ?_⟩
    have hz : 100 ≤ sizeLine := by decide
    obtain ⟨c, rfl, hc⟩ := id hu
    walk_at "rd"
    refine ⟨_, .inr hc, ?_⟩
    rw [List.length_map]
    walk_at "rd"
    refine ⟨⟨_, hc⟩, ?_⟩
    obtain ⟨W, eW⟩ : ∃ W : Nat → L2.St → Hp → Prop, W = fun i σ H' => ∃ x6 x7, σ = [some (.ref t), some (.int lim), some (.ref c), some (.int (ps.length : Nat)), some (.int (lowD d ps.length ps i)), some (.int (highD d ps.length ps lim i)), x6, x7] ∧ Same H H' := ⟨_, rfl⟩
    refine forEnumT (xs := ps.map V.int) W (by rw [eW]; exact ⟨_, _, rfl, .refl _⟩) (fun i σ H' _ hPv => ?_) (fun i x T σ H' hx' hPv hT => ?_) (fun σ H' hPv => ?_) <;> rw [eW] at hPv
    · obtain ⟨_, _, _, e⟩ := hPv
      exact sqt_same e hc
    · obtain ⟨x6, x7, rfl, e⟩ := hPv
      obtain ⟨hi, rfl⟩ := ints_at hx'
      have sT := same_upd (o := .tup [V.int i, V.int (ps.getD i 0)]) hT
      have eT := e.trans sT
      have ht := ht.mono eT
      obtain ⟨r1, _, hm1, hr1⟩ := ht.get (i := i) (by omega)
      obtain ⟨r2, _, hm2, hr2⟩ := ht.get (i := ps.length) (by omega)
      have fin : ∀ {σ'}, (∃ x6 x7, σ' = [some (.ref t), some (.int lim), some (.ref c), some (.int (ps.length : Nat)), some (.int (lowD d ps.length ps (i + 1))), some (.int (highD d ps.length ps lim (i + 1))), x6, x7]) → W (i + 1) σ' (upd H' T (.tup [V.int i, V.int (ps.getD i 0)])) := by
        rintro σ' ⟨x6, x7, z⟩
        rw [eW]
        exact ⟨x6, x7, z, eT⟩
      have hgd : gd ps i = ps.getD i 0 := rfl
      walk_at "rd"
      refine ⟨_, .of upd_same, rfl, ?_⟩
      walk_at "rd"
      refine ⟨t, _, _, _, rfl, rfl, .of ht.top, atI_nat hm1, r1, _, _, _, rfl, rfl, .of hr1, atI_nat (rowV_at d i (by omega)), ?_⟩
      have n1 : ∀ {R : VK}, R (ovV (d i ps.length)) (upd H' T (.tup [V.int i, V.int (ps.getD i 0)])) → rIxL K (.ref t) (.int i) (upd H' T (.tup [V.int i, V.int (ps.getD i 0)])) fun x H1 => rIxL K x (.int (ps.length : Nat)) H1 R := fun {R} q => ⟨t, _, _, _, rfl, rfl, .of ht.top, atI_nat hm1, r1, _, _, _, rfl, rfl, .of hr1, atI_nat (rowV_at d i (by omega)), q⟩
      have n2 : ∀ {R : VK}, R (ovV (d ps.length i)) (upd H' T (.tup [V.int i, V.int (ps.getD i 0)])) → rIxL K (.ref t) (.int (ps.length : Nat)) (upd H' T (.tup [V.int i, V.int (ps.getD i 0)])) fun x H1 => rIxL K x (.int i) H1 R := fun {R} q => ⟨t, _, _, _, rfl, rfl, .of ht.top, atI_nat hm2, r2, _, _, _, rfl, rfl, .of hr2, atI_nat (rowV_at d ps.length (by omega)), q⟩
      have lowE : lowD d ps.length ps (i + 1) = match d i ps.length with
        | some l => if gd ps i - l > lowD d ps.length ps i then gd ps i - l else lowD d ps.length ps i
        | none => lowD d ps.length ps i := rfl
      have highE : highD d ps.length ps lim (i + 1) = match d ps.length i with
        | some l => if gd ps i + l < highD d ps.length ps lim i then gd ps i + l else highD d ps.length ps lim i
        | none => highD d ps.length ps lim i := rfl
      cases d1 : d i ps.length with
      | none =>
        rw [d1] at lowE
        simp only [ovV]
        walk_at "rd"
        refine n2 ?_
        cases d2 : d ps.length i with
        | none =>
          rw [d2] at highE
          simp only [ovV]
          walk_at "rd"
          exact fin ⟨_, _, by rw [lowE, highE]⟩
        | some z =>
          rw [d2] at highE
          simp only [ovV]
          walk_at "rd"
          refine n2 ?_
          rw [d2]
          simp only [ovV]
          walk_at "rd"
          refine ⟨_, _, ⟨rfl, rfl⟩, fin ⟨_, _, by rw [lowE, highE]⟩⟩
      | some y =>
        rw [d1] at lowE
        simp only [ovV]
        walk_at "rd"
        refine n1 ?_
        rw [d1]
        simp only [ovV]
        walk_at "rd"
        refine ⟨_, _, ⟨rfl, rfl⟩, n2 ?_⟩
        cases d2 : d ps.length i with
        | none =>
          rw [d2] at highE
          simp only [ovV]
          walk_at "rd"
          exact fin ⟨_, _, by rw [lowE, highE]⟩
        | some z =>
          rw [d2] at highE
          simp only [ovV]
          walk_at "rd"
          refine n2 ?_
          rw [d2]
          simp only [ovV]
          walk_at "rd"
          refine ⟨_, _, ⟨rfl, rfl⟩, fin ⟨_, _, by rw [lowE, highE]⟩⟩
    · obtain ⟨x6, x7, rfl, e⟩ := hPv
      rw [List.length_map]
      walk_at "rd"
      have ht := ht.mono e
      have hlo := low_bnd (b := ps.length) hd (fun i => (hps i).2) ps.length
      have hhi := high_bnd (b := ps.length) hd (fun i => (hps i).1) hl0 ps.length
      refine ⟨_, .inl (.of ht.top), rfl, ?_⟩
      rw [List.length_map, ht.len]
      cases m with
      | zero =>
        have hdn : decide ((ps.length : Int) = (n : Int) - 1) = true := decide_eq_true (by omega)
        simp only [hdn, ite_true]
        have q := q H' e
        unfold cntD at q
        exact ⟨_, _, ⟨rfl, rfl⟩, q⟩
      | succ m =>
        have hdn : decide ((ps.length : Int) = (n : Int) - 1) = false := decide_eq_false (by omega)
        simp only [hdn, Bool.false_eq_true, ite_false]
        have q := fun H' e => q H' e
        unfold cntD at q
        generalize lowD d ps.length ps ps.length = lo at *
        generalize highD d ps.length ps lim ps.length = hi at *
        refine ⟨_, _, ⟨rfl, rfl⟩, ⟨by omega, by omega, by omega, by omega⟩, fun D hD => ?_⟩
        obtain ⟨N, hN⟩ : ∃ N, (hi + 1 - lo).toNat = N := ⟨_, rfl⟩
        rw [hN] at q ⊢
        have hN13 : N ≤ 13 := by omega
        refine lcRange' (fun i H2 => Same H' H2 ∧ H2 D = some (.lst (((List.range i).map fun (i : Nat) => cntD d lim m (ps ++ [lo + (i : Int)])).map V.int))) ⟨same_upd hD, upd_same⟩ (fun i H2 hi' hPv => ?_) (fun H2 hPv => ?_)
        · obtain ⟨e2, hL⟩ := hPv
          have hlp : lo + (i : Int) ≤ 12 := by omega
          walk_at "rd"
          refine ⟨by omega, fun p1 hp1 => ?_⟩
          have s1 := same_upd (o := .tup [V.int (lo + (i : Int))]) hp1
          refine cat_two (sqt_same ((e.trans e2).trans s1) hc) (.of upd_same) (by rw [List.length_map]; show ps.length + 1 ≤ sizeLine; omega) fun m3 H3 s3 h3 => ?_
          have e3 := (e2.trans s1).trans s3
          have h3 : SqT K H3 m3 ((ps ++ [lo + (i : Int)]).map V.int) := by
            rw [List.map_append]
            exact h3
          refine ⟨t, as, n, d, lim, _, ps ++ [lo + (i : Int)], m, rfl, ht.mono e3, ⟨m3, rfl, h3⟩, by rw [List.length_append]; show ps.length + 1 + m + 1 = n; omega, by omega, n8, hl0, hl12, fun j => ?_, hd, fun H4 s4 => ?_⟩
          · rcases gd_snoc ps (lo + (i : Int)) j with z | z
            · rw [z]
              exact hps j
            · rw [z]
              omega
          · have hL4 := s4 _ _ (s3 _ _ (s1 _ _ hL))
            have e4 := e3.trans s4
            refine ⟨_, hL4, by rw [List.length_map, List.length_map, List.length_range]; omega, fun z o hz' => ?_, ?_⟩
            · rw [upd_ne (ne_of_none hz' hD)]
              exact e4 z o hz'
            · rw [upd_same, List.range_succ, List.map_append, List.map_append]
              rfl
        · obtain ⟨e2, hL⟩ := hPv
          exact ⟨D, _, rfl, .of hL, q _ (e.trans e2)⟩
theorem df_count_placings (T : Here K mg "count_placings" s_count_placings) (B : Blt mg) (B2 : Blt2 mg) : Df P w K mg base CX0 "count_placings" 6 p_count_placings (spU K 5) := by
  exact cnt_placings T B B2 5
end
end Hx

set_option Elab.async false
set_option linter.all false
set_option maxRecDepth 100000
set_option maxHeartbeats 4000000
namespace Hx
open PySem PySem.Spec PyProof.Rows L2
local macro_rules | `(tactic| walk_at "rd") => `(tactic| (try simp only [q_var, q_c, q_op, q_un, q_rI, q_rI0, q_rU, q_rEq, q_rNe, q_test, q_tB, q_and, q_or, q_not, q_andV, q_orV, q_notV, q_if, q_isN, q_notN, q_chain, q_next, q_seq, q_break, q_cont, q_drop, q_ret, q_retN, q_ifS, q_never, q_gN, q_gNil, q_gCons, q_gTup, q_gSub, q_asg, q_par, q_aug, q_nil, q_cons, q_tup, q_lst, q_call, q_cb, q_noPart, q_part, q_sl, q_bm0, q_bm, q_yes, q_for, q_lc, q_iList, q_iTup, q_iRng1, q_iEnumT, q_iEnum, q_iRng2, q_iZipA, q_iZipM, q_ipI, q_ckw, q_len, q_listOf, q_tupleOf, L2.start, cx_K, wipe, List.map_cons, List.map_nil, List.length_cons, List.length_nil, List.cons_append, List.nil_append, List.append_nil, List.replicate, List.getElem?_cons_zero, List.getElem?_cons_succ, List.set_cons_zero, List.set_cons_succ, Option.some.injEq, List.cons.injEq, exists_eq_left', exists_eq_left, exists_and_left, V.int.injEq, V.bl.injEq, V.ref.injEq, if_true, if_false, Bool.not_true, Bool.not_false, true_and, and_true, Bool.false_eq_true, ite_true, ite_false, Nat.reduceAdd, Nat.reduceSub, reduceCtorEq, decide_false, decide_true, Int.toNat_natCast, false_and, exists_false, or_false, false_or]))
section
variable {P : Program} {w : World} {K : PySem.W.Frag} {mg : Str → Option Value} {base : Heap}
def s_count_positions : Stmt := topS 50
abbrev n_count_positions : List Str := ["fleet", "limit", "table"]
abbrev p_count_positions : List Str := ["fleet", "limit"]
theorem sc_count_positions : FnScope n_count_positions p_count_positions (defScope s_count_positions) := ⟨rfl, rfl, rfl, by decide +kernel, rfl, by decide +kernel, by decide +kernel⟩
def sp_count_positions (K : PySem.W.Frag) : Sp := fun vs H Q _ => ∃ (v : V) (n : Nat) (rs : List Rope) (lim : Int), vs = [v, .int lim] ∧ FleetV K H v n rs ∧ FleetOk n rs ∧ n ≤ 5 ∧ 0 ≤ lim ∧ lim ≤ 12 ∧ Diag n (chainTab n rs) ∧ (∀ a c p, chainTab n rs a c = some p → -200 ≤ p) ∧ ∀ H', Same H H' → Q (.int (cntD (chainTab n rs) lim (n - 1) [])) H'
theorem df_count_positions (T : Here K mg "count_positions" s_count_positions) (C_MOST_COUNTED : ∃ u, mg "MOST_COUNTED" = some (.int 5 u)) (C_FARTHEST_COUNTED : ∃ u, mg "FARTHEST_COUNTED" = some (.int 12 u)) (D_check_fleet : Df P w K mg base CX0 "check_fleet" 4 p_check_fleet (sp_check_fleet K)) (D_check_table : Df P w K mg base CX0 "check_table" 1 p_check_table (sp_check_table K))
    (D_chain_table : Df P w K mg base CX0 "chain_table" 2 p_chain_table (sp_chain_table K)) (D_is_number : Df P w K mg base CX0 "is_number" 1 p_is_number (sp_is_number K)) (D_count_placings : Df P w K mg base CX0 "count_placings" 6 p_count_placings (spU K 5)) :
    Df P w K mg base CX0 "count_positions" 7 p_count_positions (sp_count_positions K) := by
  refine T.df sc_count_positions (fun _ _ _ _ _ _ us hl => match us, hl with | [_, _], _ => rfl) (fun vs H Q E h => by obtain ⟨_, _, _, _, rfl, _⟩ := h; rfl) (fun f cdv A outer s H vs Q E hr h => ?_)
  obtain ⟨v, n, rs, lim, rfl, hv, hok, n5, hl0, hl12, hD, hd, q⟩ := h
  refine ⟨_, pss_cons (ps_expr (D_check_fleet.call (hr.mono (by decide)) (by rfl) (pa_cons (pv 0) pa_nil)))
      (pss_cons (ps_set (i := 2) sc_count_positions.nd rfl (by first | exact Or.inl rfl | exact Or.inr rfl) (D_chain_table.call (hr.mono (by decide)) (by rfl) (pa_cons (pv 0) pa_nil)))
      (pss_cons (ps_expr (D_check_table.call (hr.mono (by decide)) (by rfl) (pa_cons (pv 2) pa_nil)))
      (pss_cons (ps_if (PW.pt (pw_or (pt_cmpR op_gt (pe_ix (ixT K rfl) (pv 0) (pe_int) (fun _ _ => rfl)) (pe_gi (by rfl) C_MOST_COUNTED) (nomark _)) (pw_or1 (pt_not (pt_val (D_is_number.call (hr.mono (by decide)) (by rfl) (pa_cons (pv 1) (pa_cons (pe_int) (pa_cons (pe_gi (by rfl) C_FARTHEST_COUNTED) pa_nil))))))))) (pss_one (ps_never)) (pss_nil))
      (pss_one (ps_ret (D_count_placings.call (hr.mono (by decide)) (by rfl) (pa_cons (pv 2) (pa_cons (pv 1) (pa_cons (pe_tup (pa_nil)) pa_nil))))))))), ?_⟩
  have n1 : 1 ≤ n := by have := hok.1; omega
  walk_at "rd"
  refine ⟨v, n, rs, rfl, hv, hok, fun H1 s1 => ?_⟩
  walk_at "rd"
  refine ⟨v, n, rs, rfl, hv.mono s1, hok, fun H2 t as tn => ?_⟩
  have s2 := s1.trans tn.same
  walk_at "rd"
  refine ⟨t, as, n, _, rfl, tn.tab, by omega, hD, ?_⟩
  obtain ⟨a, b, rfl, ha, hb⟩ := (hv.mono s2).at
  walk_at "rd"
  refine ⟨a, _, 0, _, rfl, rfl, ha, atI_nat (j := 0) rfl, ?_⟩
  walk_at "rd"
  rw [decide_eq_false (show ¬ (5 : Int) < (n : Int) by omega)]
  simp only [Bool.false_eq_true, ite_false]
  refine ⟨lim, 0, 12, rfl, ?_⟩
  rw [decide_eq_true (show (0 : Int) ≤ lim ∧ lim ≤ 12 from ⟨hl0, hl12⟩)]
  refine ⟨true, rfl, ?_⟩
  simp only [Bool.not_true, Bool.false_eq_true, ite_false]
  refine ⟨Nat.zero_le _, fun p hp => ?_⟩
  have s3 := same_upd (o := .tup []) hp
  refine ⟨t, as, n, _, lim, _, [], n - 1, rfl, tn.tab.mono s3, ⟨p, rfl, .of upd_same⟩, by show 0 + (n - 1) + 1 = n; omega, by omega, by omega, hl0, hl12, fun i => ?_, hd, fun H4 s4 => q _ ((s2.trans s3).trans s4)⟩
  have : gd [] i = 0 := rfl
  omega
def s_is_pair : Stmt := topS 53
abbrev n_is_pair : List Str := ["value", "count", "front", "rear"]
abbrev p_is_pair : List Str := ["value", "count"]
theorem sc_is_pair : FnScope n_is_pair p_is_pair (defScope s_is_pair) := ⟨rfl, rfl, rfl, by decide +kernel, rfl, by decide +kernel, by decide +kernel⟩
def sp_is_pair (K : PySem.W.Frag) : Sp := fun vs H Q _ => ∃ (a : Addr) (n f r : Nat), vs = [.ref a, .int n] ∧ SqT K H a [.int f, .int r] ∧ f < n ∧ r < n ∧ f ≠ r ∧ Q (.bl true) H
theorem df_is_pair (T : Here K mg "is_pair" s_is_pair) (B : Blt mg) (D_is_barge : Df P w K mg base CX0 "is_barge" 2 p_is_barge (sp_is_barge K)) : Df P w K mg base CX0 "is_pair" 3 p_is_pair (sp_is_pair K) := by
  refine T.df sc_is_pair (fun _ _ _ _ _ _ us hl => match us, hl with | [_, _], _ => rfl) (fun vs H Q E h => by obtain ⟨_, _, _, _, rfl, _⟩ := h; rfl) (fun f cdv A outer s H vs Q E hr h => ?_)
  obtain ⟨a, n, f, r, rfl, ha, hf, hr', hne, q⟩ := h
  refine ⟨_, pss_cons (ps_if (PW.pt (pw_or (pt_not (pt_val (pe_callB (isi K rfl) (by rfl) B.isinstance (by decide +kernel) (pa_cons (pv 0) (pa_cons ((pe_bltn (v := .ty "tuple") (by rfl) B.tuple (by decide +kernel) rfl)) pa_nil))))) (pw_or1 (pt_cmpR op_ne (pe_callB (lenQ K rfl) (by rfl) B.len (by decide +kernel) (pa_cons (pv 0) pa_nil)) (pe_int) (nomark _))))) (pss_one (ps_ret (pe_bl))) (pss_nil))
      (pss_cons (ps_asg (pv 0) (pgTup K rfl (n := 2) rfl (pgs_cons (pg_name (i := 2) sc_is_pair.nd rfl (by first | exact Or.inl rfl | exact Or.inr rfl)) (pgs_cons (pg_name (i := 3) sc_is_pair.nd rfl (by first | exact Or.inl rfl | exact Or.inr rfl)) pgs_nil))))
      (pss_one (ps_ret (pe_and (D_is_barge.call (hr.mono (by decide)) (by rfl) (pa_cons (pv 2) (pa_cons (pv 1) pa_nil))) (pe_and (D_is_barge.call (hr.mono (by decide)) (by rfl) (pa_cons (pv 3) (pa_cons (pv 1) pa_nil))) (pe_one (pe_cmpR op_ne (pv 2) (pv 3) (nomark _)))))))), ?_⟩
  walk_at "rd"
  refine isi_yes (tyx_tup ha) (by decide +kernel) ?_
  walk_at "rd"
  refine ⟨_, .inr ha, rfl, ?_⟩
  have h2 : decide ((([V.int (f : Nat), V.int (r : Nat)].length : Nat) : Int) = 2) = true := rfl
  simp only [h2, Bool.not_true, Bool.false_eq_true, ite_false]
  refine ⟨_, ha, rfl, ?_⟩
  walk_at "rd"
  refine ⟨f, n, rfl, ?_⟩
  rw [decide_eq_true (show (0 : Int) ≤ (f : Int) ∧ (f : Int) < (n : Int) by omega)]
  walk_at "rd"
  refine ⟨r, n, rfl, ?_⟩
  rw [decide_eq_true (show (0 : Int) ≤ (r : Int) ∧ (r : Int) < (n : Int) by omega)]
  walk_at "rd"
  refine ⟨rfl, ?_⟩
  rw [decide_eq_false (show ¬ (f : Int) = (r : Int) by omega)]
  exact q
def s_check_pairs : Stmt := topS 51
abbrev n_check_pairs : List Str := ["pairs", "count", "pair"]
abbrev p_check_pairs : List Str := ["pairs", "count"]
theorem sc_check_pairs : FnScope n_check_pairs p_check_pairs (defScope s_check_pairs) := ⟨rfl, rfl, rfl, by decide +kernel, rfl, by decide +kernel, by decide +kernel⟩
def sp_check_pairs (K : PySem.W.Frag) : Sp := fun vs H Q _ => ∃ (l a : Addr) (n f r : Nat), vs = [.ref l, .int n] ∧ H l = some (.lst [.ref a]) ∧ SqT K H a [.int f, .int r] ∧ f < n ∧ r < n ∧ f ≠ r ∧ Q .non H
theorem df_check_pairs (T : Here K mg "check_pairs" s_check_pairs) (B : Blt mg) (D_is_pair : Df P w K mg base CX0 "is_pair" 3 p_is_pair (sp_is_pair K)) : Df P w K mg base CX0 "check_pairs" 4 p_check_pairs (sp_check_pairs K) := by
  refine T.df sc_check_pairs (fun _ _ _ _ _ _ us hl => match us, hl with | [_, _], _ => rfl) (fun vs H Q E h => by obtain ⟨_, _, _, _, _, rfl, _⟩ := h; rfl) (fun fA cdv A outer s H vs Q E hr h => ?_)
  obtain ⟨l, a, n, f, r, rfl, hl, ha, hf, hr', hne, q⟩ := h
  refine ⟨_, pss_cons (ps_if (pt_not (pt_val (pe_callB (isi K rfl) (by rfl) B.isinstance (by decide +kernel) (pa_cons (pv 0) (pa_cons ((pe_bltn (v := .ty "list") (by rfl) B.list (by decide +kernel) rfl)) pa_nil))))) (pss_one (ps_never)) (pss_nil))
      (pss_one (ps_for PassesOwn.never rfl (piList K rfl (pv 0)) (pg_name (i := 2) sc_check_pairs.nd rfl (by first | exact Or.inl rfl | exact Or.inr rfl)) (pss_one (ps_if (pt_not (pt_val (D_is_pair.call (hr.mono (by decide)) (by rfl) (pa_cons (pv 2) (pa_cons (pv 1) pa_nil))))) (pss_one (ps_never)) (pss_nil))))), ?_⟩
  walk_at "rd"
  refine isi_yes (tyx_lst (.of hl)) (by decide +kernel) ?_
  walk_at "rd"
  refine ⟨⟨_, .of hl⟩, ?_⟩
  obtain ⟨W, eW⟩ : ∃ W : Nat → L2.St → Hp → Prop, W = fun i σ H' => ∃ x2, σ = [some (.ref l), some (.int n), x2] ∧ H = H' := ⟨_, rfl⟩
  refine forList (xs := [V.ref a]) W (by rw [eW]; exact ⟨_, rfl, rfl⟩) (fun i σ H' _ hPv => ?_) (fun i x σ H' hx' hPv => ?_) (fun σ H' hPv => ?_) <;> rw [eW] at hPv
  · obtain ⟨_, _, rfl⟩ := hPv
    exact .of hl
  · obtain ⟨x2, rfl, rfl⟩ := hPv
    have hxa : x = V.ref a := by
      cases i with
      | zero => exact (Option.some.inj hx').symm
      | succ i => cases hx'
    subst hxa
    walk_at "rd"
    refine ⟨a, n, f, r, rfl, ha, hf, hr', hne, ?_⟩
    walk_at "rd"
    rw [eW]
    exact ⟨_, rfl, rfl⟩
  · obtain ⟨x2, rfl, rfl⟩ := hPv
    walk_at "rd"
    exact q
def topI (a b : Int) : Int := if b > a then b else a
theorem top_of {a b m : Int} (hm : m ∈ [a, b]) (hle : ∀ y, y ∈ [a, b] → y ≤ m) : m = topI a b := by
  have h1 := hle a (by simp)
  have h2 := hle b (by simp)
  unfold topI
  have hm : m = a ∨ m = b := by simpa using hm
  split <;> omega
/-- a list of two arrangements -/
structure TwoA (K : PySem.W.Frag) (H : Hp) (l : Addr) (v1 v2 : V) (x1 x2 : List Int) : Prop where
  top : H l = some (.lst [v1, v2])
  i1 : IntsT K H v1 x1
  i2 : IntsT K H v2 x2
theorem TwoA.mono {H H' : Hp} {l : Addr} {v1 v2 : V} {x1 x2 : List Int} (h : TwoA K H l v1 v2 x1 x2) (e : Same H H') : TwoA K H' l v1 v2 x1 x2 := ⟨e _ _ h.top, h.i1.mono e, h.i2.mono e⟩
theorem TwoA.at {H : Hp} {l : Addr} {v1 v2 : V} {x1 x2 : List Int} (h : TwoA K H l v1 v2 x1 x2) {i : Nat} {x : V} (hx : [v1, v2][i]? = some x) : (i = 0 ∧ x = v1) ∨ (i = 1 ∧ x = v2) := by
  cases i with
  | zero => exact .inl ⟨rfl, (Option.some.inj hx).symm⟩
  | succ i =>
    cases i with
    | zero => exact .inr ⟨rfl, (Option.some.inj hx).symm⟩
    | succ i => cases hx
def s_greatest_lead : Stmt := topS 52
abbrev n_greatest_lead : List Str := ["arrangements", "front", "rear", "positions"]
abbrev p_greatest_lead : List Str := ["arrangements", "front", "rear"]
theorem sc_greatest_lead : FnScope n_greatest_lead p_greatest_lead (defScope s_greatest_lead) := ⟨rfl, rfl, rfl, by decide +kernel, rfl, by decide +kernel, by decide +kernel⟩
def sp_greatest_lead (K : PySem.W.Frag) : Sp := fun vs H Q _ => ∃ (l : Addr) (v1 v2 : V) (x1 x2 : List Int) (f r : Nat), vs = [.ref l, .int f, .int r] ∧ TwoA K H l v1 v2 x1 x2 ∧ f < x1.length ∧ r < x1.length ∧ f < x2.length ∧ r < x2.length ∧ ∀ H', Same H H' → Q (.int (topI (gd x1 f - gd x1 r) (gd x2 f - gd x2 r))) H'
theorem df_greatest_lead (T : Here K mg "greatest_lead" s_greatest_lead) (B : Blt mg) : Df P w K mg base CX0 "greatest_lead" 1 p_greatest_lead (sp_greatest_lead K) := by
  refine T.df sc_greatest_lead (fun _ _ _ _ _ _ us hl => match us, hl with | [_, _, _], _ => rfl) (fun vs H Q E h => by obtain ⟨_, _, _, _, _, _, _, rfl, _⟩ := h; rfl) (fun fA cdv A outer s H vs Q E hr h => ?_)
  obtain ⟨l, v1, v2, x1, x2, f, r, rfl, tw, f1, r1, f2, r2, q⟩ := h
  refine ⟨_, pss_one (ps_ret (pe_callB (maxQ K rfl rfl) (by rfl) B.max (by decide +kernel) (pa_cons (pe_lc (own := [("positions", 3)]) rfl sc_greatest_lead.nd (piList K rfl (pv 0)) (blkOk_by (N := n_greatest_lead) (sc := defScope s_greatest_lead) (by decide +kernel)) (fun _ _ _ _ _ => pg_name (i := 3) sc_greatest_lead.nd rfl (by first | exact Or.inl rfl | exact Or.inr rfl)) (fun _ _ _ _ _ => pts_nil) (fun _ _ _ _ _ => pe_op op_sub (pe_ix (ixT K rfl) (pv 3) (pv 1) (fun _ _ => rfl)) (pe_ix (ixT K rfl) (pv 3) (pv 2) (fun _ _ => rfl)))) pa_nil))), ?_⟩
  have hz : 100 ≤ sizeLine := by decide
  walk_at "rd"
  refine ⟨⟨_, .of tw.top⟩, fun D hD => ?_⟩
  refine lcList (xs := [v1, v2]) (fun i H' => Same H H' ∧ H' D = some (.lst (([gd x1 f - gd x1 r, gd x2 f - gd x2 r].take i).map V.int))) ⟨same_upd hD, upd_same⟩ (fun i H' _ hPv => .of (hPv.1 _ _ tw.top)) (fun i x H' hx hPv => ?_) (fun H' hPv => ?_)
  · obtain ⟨e, hL⟩ := hPv
    have tw := tw.mono e
    walk_at "rd"
    have fin : ∀ (i : Nat) (y : Int) (H' : Hp), Same H H' → H' D = some (.lst (([gd x1 f - gd x1 r, gd x2 f - gd x2 r].take i).map V.int)) → [gd x1 f - gd x1 r, gd x2 f - gd x2 r][i]? = some y → ∃ acc, H' D = some (.lst acc) ∧ acc.length < sizeLine ∧ Same H (upd H' D (.lst (acc ++ [V.int y]))) ∧ (upd H' D (.lst (acc ++ [V.int y]))) D = some (.lst (([gd x1 f - gd x1 r, gd x2 f - gd x2 r].take (i + 1)).map V.int)) := by
      intro i y H' e hL hy
      refine ⟨_, hL, by rw [List.length_map, List.length_take]; show min i 2 < sizeLine; omega, fun z o hz' => ?_, ?_⟩
      · rw [upd_ne (ne_of_none hz' hD)]
        exact e z o hz'
      · rw [upd_same, List.take_add_one, hy, List.map_append]
        rfl
    rcases tw.at hx with ⟨rfl, rfl⟩ | ⟨rfl, rfl⟩
    · obtain ⟨c, rfl, hc⟩ := id tw.i1
      refine ⟨c, _, f, _, rfl, rfl, hc, atI_nat (at_ints f1), c, _, r, _, rfl, rfl, hc, atI_nat (at_ints r1), ?_⟩
      walk_at "rd"
      exact fin 0 _ _ e hL rfl
    · obtain ⟨c, rfl, hc⟩ := id tw.i2
      refine ⟨c, _, f, _, rfl, rfl, hc, atI_nat (at_ints f2), c, _, r, _, rfl, rfl, hc, atI_nat (at_ints r2), ?_⟩
      walk_at "rd"
      exact fin 1 _ _ e hL rfl
  · obtain ⟨e, hL⟩ := hPv
    refine ⟨D, _, rfl, .of hL, by show 0 < 2; omega, fun m hm hle => ?_⟩
    rw [top_of hm hle]
    exact q _ e
def s_shortest_ropes : Stmt := topS 49
abbrev n_shortest_ropes : List Str := ["count", "pairs", "arrangements", "fleet", "positions", "front", "rear"]
abbrev p_shortest_ropes : List Str := ["count", "pairs", "arrangements"]
theorem sc_shortest_ropes : FnScope n_shortest_ropes p_shortest_ropes (defScope s_shortest_ropes) := ⟨rfl, rfl, rfl, by decide +kernel, rfl, by decide +kernel, by decide +kernel⟩
def sp_shortest_ropes (K : PySem.W.Frag) : Sp := fun vs H Q _ => ∃ (lp la a : Addr) (v1 v2 : V) (x1 x2 : List Int) (n f r : Nat), vs = [.int n, .ref lp, .ref la] ∧ 1 ≤ n ∧ n ≤ 8 ∧ H lp = some (.lst [.ref a]) ∧ SqT K H a [.int f, .int r] ∧ f < n ∧ r < n ∧ f ≠ r ∧ TwoA K H la v1 v2 x1 x2 ∧ x1.length = n ∧ x2.length = n ∧ InRange x1 ∧ InRange x2 ∧
  ∀ H' l t, Same H H' → H' l = some (.lst [.ref t]) → SqT K H' t [.int f, .int r, .int (topI (gd x1 f - gd x1 r) (gd x2 f - gd x2 r))] → Q (.ref l) H'
theorem df_shortest_ropes (T : Here K mg "shortest_ropes" s_shortest_ropes) (B : Blt mg) (D_check_fleet : Df P w K mg base CX0 "check_fleet" 4 p_check_fleet (sp_check_fleet K)) (D_check_positions : Df P w K mg base CX0 "check_positions" 3 p_check_positions (sp_check_positions K)) (D_check_pairs : Df P w K mg base CX0 "check_pairs" 4 p_check_pairs (sp_check_pairs K))
    (D_greatest_lead : Df P w K mg base CX0 "greatest_lead" 1 p_greatest_lead (sp_greatest_lead K)) : Df P w K mg base CX0 "shortest_ropes" 5 p_shortest_ropes (sp_shortest_ropes K) := by
  refine T.df sc_shortest_ropes (fun _ _ _ _ _ _ us hl => match us, hl with | [_, _, _], _ => rfl) (fun vs H Q E h => by obtain ⟨_, _, _, _, _, _, _, _, _, _, rfl, _⟩ := h; rfl) (fun fA cdv A outer s H vs Q E hr h => ?_)
  obtain ⟨lp, la, a, v1, v2, x1, x2, n, f, r, rfl, n1, n8, hlp, ha, hf, hr', hne, tw, l1, l2, g1, g2, q⟩ := h
  refine ⟨_, pss_cons (ps_set (i := 3) sc_shortest_ropes.nd rfl (by first | exact Or.inl rfl | exact Or.inr rfl) (pe_tup (pa_cons (pv 0) (pa_cons (pe_tup (pa_nil)) pa_nil))))
      (pss_cons (ps_expr (D_check_fleet.call (hr.mono (by decide)) (by rfl) (pa_cons (pv 3) pa_nil)))
      (pss_cons (ps_if (PW.pt (pw_or (pt_not (pt_val (pe_callB (isi K rfl) (by rfl) B.isinstance (by decide +kernel) (pa_cons (pv 2) (pa_cons ((pe_bltn (v := .ty "list") (by rfl) B.list (by decide +kernel) rfl)) pa_nil))))) (pw_or1 (pt_cmpR op_eq (pe_callB (lenQ K rfl) (by rfl) B.len (by decide +kernel) (pa_cons (pv 2) pa_nil)) (pe_int) (nomark _))))) (pss_one (ps_never)) (pss_nil))
      (pss_cons (ps_for PassesOwn.never rfl (piList K rfl (pv 2)) (pg_name (i := 4) sc_shortest_ropes.nd rfl (by first | exact Or.inl rfl | exact Or.inr rfl)) (pss_one (ps_expr (D_check_positions.call (hr.mono (by decide)) (by rfl) (pa_cons (pv 3) (pa_cons (pv 4) pa_nil))))))
      (pss_cons (ps_expr (D_check_pairs.call (hr.mono (by decide)) (by rfl) (pa_cons (pv 1) (pa_cons (pv 0) pa_nil))))
      (pss_one (ps_ret (pe_lc (own := [("front", 5), ("rear", 6)]) rfl sc_shortest_ropes.nd (piList K rfl (pv 1)) (blkOk_by (N := n_shortest_ropes) (sc := defScope s_shortest_ropes) (by decide +kernel)) (fun _ _ _ _ _ => pgTup K rfl (n := 2) rfl (pgs_cons (pg_name (i := 5) sc_shortest_ropes.nd rfl (by first | exact Or.inl rfl | exact Or.inr rfl)) (pgs_cons (pg_name (i := 6) sc_shortest_ropes.nd rfl (by first | exact Or.inl rfl | exact Or.inr rfl)) pgs_nil))) (fun _ _ _ _ _ => pts_nil) (fun _ _ _ _ _ => pe_tup (pa_cons (pv 5) (pa_cons (pv 6) (pa_cons (D_greatest_lead.call (hr.mono (by decide)) (by rfl) (pa_cons (pv 2) (pa_cons (pv 5) (pa_cons (pv 6) pa_nil)))) pa_nil))))))))))), ?_⟩
  have hz : 100 ≤ sizeLine := by decide
  walk_at "rd"
  refine ⟨Nat.zero_le _, fun p0 hp0 => ⟨by show 2 ≤ sizeLine; omega, fun p1 hp1 => ?_⟩⟩
  have s1 := (same_upd (o := .tup []) hp0).trans (same_upd (o := .tup [V.int n, V.ref p0]) hp1)
  have hfl : FleetV K (upd (upd H p0 (.tup [])) p1 (.tup [V.int n, V.ref p0])) (.ref p1) n [] := ⟨p1, p0, [], rfl, .of upd_same, .of (same_upd hp1 _ _ upd_same), rfl, fun i r h => by cases h⟩
  have hfo : FleetOk n [] := ⟨by omega, by omega, by show 0 ≤ 40; omega, fun r h => by cases h⟩
  generalize upd (upd H p0 (.tup [])) p1 (.tup [V.int n, V.ref p0]) = H1 at s1 hfl ⊢
  refine ⟨.ref p1, n, [], rfl, hfl, hfo, fun H2 s2 => ?_⟩
  have s2 := s1.trans s2
  have hfl := hfl.mono ‹Same H1 H2›
  have tw2 := tw.mono s2
  refine isi_yes (tyx_lst (.of tw2.top)) (by decide +kernel) ?_
  refine ⟨true, rfl, ?_⟩
  simp only [Bool.not_true, Bool.false_eq_true, ite_false]
  refine ⟨_, .inl (.of tw2.top), rfl, ?_⟩
  have h0 : decide ((([v1, v2].length : Nat) : Int) = 0) = false := rfl
  simp only [h0, Bool.false_eq_true, ite_false]
  refine ⟨⟨_, .of tw2.top⟩, ?_⟩
  obtain ⟨W, eW⟩ : ∃ W : Nat → L2.St → Hp → Prop, W = fun i σ H' => ∃ x4, σ = [some (.int n), some (.ref lp), some (.ref la), some (.ref p1), x4, none, none] ∧ Same H2 H' := ⟨_, rfl⟩
  refine forList (xs := [v1, v2]) W (by rw [eW]; exact ⟨_, rfl, .refl _⟩) (fun i σ H' _ hPv => ?_) (fun i x σ H' hx' hPv => ?_) (fun σ H' hPv => ?_) <;> rw [eW] at hPv
  · obtain ⟨_, _, e⟩ := hPv
    exact .of (e _ _ tw2.top)
  · obtain ⟨x4, rfl, e⟩ := hPv
    have tw3 := tw2.mono e
    walk_at "rd"
    rcases tw3.at hx' with ⟨rfl, rfl⟩ | ⟨rfl, rfl⟩
    · refine ⟨.ref p1, _, n, [], x1, rfl, hfl.mono e, tw3.i1, by rw [l1], g1, fun H3 s3 => ?_⟩
      rw [eW]
      exact ⟨_, rfl, e.trans s3⟩
    · refine ⟨.ref p1, _, n, [], x2, rfl, hfl.mono e, tw3.i2, by rw [l2], g2, fun H3 s3 => ?_⟩
      rw [eW]
      exact ⟨_, rfl, e.trans s3⟩
  · obtain ⟨x4, rfl, e⟩ := hPv
    have e2 := s2.trans e
    have tw3 := tw2.mono e
    have hlp3 := e2 _ _ hlp
    have ha3 := sqt_same e2 ha
    walk_at "rd"
    refine ⟨lp, a, n, f, r, rfl, hlp3, ha3, hf, hr', hne, ?_⟩
    walk_at "rd"
    refine ⟨⟨_, .of hlp3⟩, fun D hD => ?_⟩
    refine lcList (xs := [V.ref a]) (fun i H3 => Same H' H3 ∧ ((i = 0 ∧ H3 D = some (.lst [])) ∨ (i = 1 ∧ ∃ t, H3 D = some (.lst [.ref t]) ∧ SqT K H3 t [.int f, .int r, .int (topI (gd x1 f - gd x1 r) (gd x2 f - gd x2 r))]))) ⟨same_upd hD, .inl ⟨rfl, upd_same⟩⟩ (fun i H3 _ hPv => .of (hPv.1 _ _ hlp3)) (fun i x H3 hx hPv => ?_) (fun H3 hPv => ?_)
    · obtain ⟨e3, hc⟩ := hPv
      have hxa : i = 0 ∧ x = V.ref a := by
        cases i with
        | zero => exact ⟨rfl, (Option.some.inj hx).symm⟩
        | succ i => cases hx
      obtain ⟨rfl, rfl⟩ := hxa
      have hL : H3 D = some (.lst []) := by
        rcases hc with ⟨_, h⟩ | ⟨h, _⟩
        · exact h
        · cases h
      walk_at "rd"
      refine ⟨_, sqt_same e3 ha3, rfl, ?_⟩
      walk_at "rd"
      refine ⟨la, v1, v2, x1, x2, f, r, rfl, tw3.mono e3, by omega, by omega, by omega, by omega, fun H4 s4 => ?_⟩
      walk_at "rd"
      refine ⟨by show 3 ≤ sizeLine; omega, fun T hT => ?_⟩
      have sT := same_upd (o := .tup [.int f, .int r, .int (topI (gd x1 f - gd x1 r) (gd x2 f - gd x2 r))]) hT
      have hL5 := sT _ _ (s4 _ _ hL)
      have e5 := (e3.trans s4).trans sT
      have nTD : T ≠ D := fun z => by
        have := s4 _ _ hL
        rw [← z, hT] at this
        cases this
      refine ⟨_, hL5, by show 0 < sizeLine; omega, fun z o hz' => ?_, T, upd_same, .of (by rw [upd_ne nTD]; exact upd_same)⟩
      rw [upd_ne (ne_of_none hz' hD)]
      exact e5 z o hz'
    · obtain ⟨e3, hc⟩ := hPv
      rcases hc with ⟨h, _⟩ | ⟨_, t, hL, ht⟩
      · cases h
      · exact q _ D t (e2.trans e3) hL ht
end
end Hx

set_option Elab.async false
set_option linter.all false
set_option maxRecDepth 100000
set_option maxHeartbeats 4000000
namespace Hx
open PySem PySem.Spec PyProof.Rows L2
local macro_rules | `(tactic| walk_at "rd") => `(tactic| (try simp only [q_var, q_c, q_op, q_un, q_rI, q_rI0, q_rU, q_rEq, q_rNe, q_test, q_tB, q_and, q_or, q_not, q_andV, q_orV, q_notV, q_if, q_isN, q_notN, q_chain, q_next, q_seq, q_break, q_cont, q_drop, q_ret, q_retN, q_ifS, q_never, q_gN, q_gNil, q_gCons, q_gTup, q_gSub, q_asg, q_par, q_aug, q_nil, q_cons, q_tup, q_lst, q_call, q_cb, q_noPart, q_part, q_sl, q_bm0, q_bm, q_yes, q_for, q_lc, q_iList, q_iTup, q_iRng1, q_iEnumT, q_iEnum, q_iRng2, q_iZipA, q_iZipM, q_ipI, q_ckw, q_len, q_listOf, q_tupleOf, L2.start, cx_K, wipe, List.map_cons, List.map_nil, List.length_cons, List.length_nil, List.cons_append, List.nil_append, List.append_nil, List.replicate, List.getElem?_cons_zero, List.getElem?_cons_succ, List.set_cons_zero, List.set_cons_succ, Option.some.injEq, List.cons.injEq, exists_eq_left', exists_eq_left, exists_and_left, V.int.injEq, V.bl.injEq, V.ref.injEq, if_true, if_false, Bool.not_true, Bool.not_false, true_and, and_true, Bool.false_eq_true, ite_true, ite_false, Nat.reduceAdd, Nat.reduceSub, reduceCtorEq, decide_false, decide_true, Int.toNat_natCast, false_and, exists_false, or_false, false_or]))
section
variable {P : Program} {w : World} {K : PySem.W.Frag} {mg : Str → Option Value} {base : Heap}
/-- places under which all ropes hold -/
structure Pl (n : Nat) (rs : List Rope) (pl : Nat → Int) : Prop where
  lo : ∀ i, 0 ≤ pl i
  hi : ∀ i, pl i ≤ 88
  holds : ∀ r ∈ rs, HoldsR pl r
theorem Pl.up {n : Nat} {rs : List Rope} {pl : Nat → Int} (h : Pl n rs pl) (M : Int) : ∀ r ∈ rs, HoldsR (fun i => pl i + M) r := fun r hr => by
  have := h.holds r hr
  unfold HoldsR at this ⊢
  show pl _ + M - (pl _ + M) ≤ _
  omega
theorem FleetV.but {H H' : Hp} {a : Addr} {ys : List V} {v : V} {n : Int} {rs : List Rope} (h : FleetV K H v n rs) (e : But a H H') (ha : H a = some (.lst ys)) : FleetV K H' v n rs := by
  obtain ⟨x, b, xs, rfl, h1, h2, hl, hx⟩ := h
  refine ⟨x, b, xs, rfl, sqt_but e ha h1, sqt_but e ha h2, hl, fun i r hr => ?_⟩
  obtain ⟨u, hu, hv⟩ := hx i r hr
  exact ⟨u, hu, hv.but e ha⟩
theorem IntsT.but {H H' : Hp} {a : Addr} {ys : List V} {v : V} {xs : List Int} (h : IntsT K H v xs) (e : But a H H') (ha : H a = some (.lst ys)) : IntsT K H' v xs := by
  obtain ⟨c, rfl, h⟩ := h
  exact ⟨c, rfl, sqt_but e ha h⟩
theorem OptsT.but {H H' : Hp} {a : Addr} {ys : List V} {v : V} {xs : List (Option Int)} (h : OptsT K H v xs) (e : But a H H') (ha : H a = some (.lst ys)) : OptsT K H' v xs := by
  obtain ⟨c, rfl, h⟩ := h
  exact ⟨c, rfl, sqt_but e ha h⟩
def s_law_positions : Stmt := topS 59
abbrev n_law_positions : List Str := ["_law_row", "_law_fleet_here", "_law_least", "_law_most", "_law_wishes", "_law_place"]
abbrev p_law_positions : List Str := ["_law_row", "_law_fleet_here", "_law_least"]
theorem sc_law_positions : FnScope n_law_positions p_law_positions (defScope s_law_positions) := ⟨rfl, rfl, rfl, by decide +kernel, rfl, by decide +kernel, by decide +kernel⟩
def sp_law_positions (K : PySem.W.Frag) : Sp := fun vs H Q _ => ∃ (a sc : Addr) (ns : List Int) (v : V) (l : Addr) (n : Nat) (rs : List Rope) (pl : Nat → Int) (ls : List Int) (lo hi : Int), vs = [.ref a, v, .ref l] ∧ RowAt K H a sc ns ∧ FleetV K H v n rs ∧ FleetOk n rs ∧ Pl n rs pl ∧
  H l = some (.lst (ls.map V.int)) ∧ ls.length = n ∧ (∀ x ∈ ls, lo ≤ x ∧ x ≤ hi) ∧
  ∀ H' r xs, RowAt K H' a sc ns → But a H H' → IntsT K H' r xs → xs.length = n → Valid xs rs → (∀ i, i < n → lo ≤ gd xs i ∧ gd xs i ≤ pl i + (hi + 199)) → Q r H'
theorem df_law_positions (T : Here K mg "_law_positions" s_law_positions) (B : Blt mg) (D_law_taken : Df P w K mg base CX0 "_law_taken" 1 p_law_taken (sp_law_taken K)) (D_law_settled : Df P w K mg base CX0 "_law_settled" 1 p_law_settled (sp_law_settled K)) :
    Df P w K mg base CX0 "_law_positions" 2 p_law_positions (sp_law_positions K) := by
  refine T.df sc_law_positions (fun _ _ _ _ _ _ us hl => match us, hl with | [_, _, _], _ => rfl) (fun vs H Q E h => by obtain ⟨_, _, _, _, _, _, _, _, _, _, _, rfl, _⟩ := h; rfl) (fun f cdv A outer s H vs Q E hr h => ?_)
  obtain ⟨a, sc, ns, v, l, n, rs, pl, ls, lo, hi, rfl, hrow, hv, hok, hpl, hL, hn, hb, q⟩ := h
  refine ⟨_, pss_cons (ps_set (i := 3) sc_law_positions.nd rfl (by first | exact Or.inl rfl | exact Or.inr rfl) (pe_ix (ixL K rfl) (pe_lst (pa_cons (pe_int) (pa_cons (pe_int) (pa_cons (pe_int) pa_nil)))) (D_law_taken.call (hr.mono (by decide)) (by rfl) (pa_cons (pv 0) (pa_cons (pe_int) pa_nil))) (fun _ _ => rfl)))
      (pss_cons (ps_setLc (i := 4) (own := [("_law_place", 5)]) rfl sc_law_positions.nd rfl rfl (sw_true rfl rfl rfl (by decide +kernel)) (piList K rfl (pv 2)) (blkOk_by (N := n_law_positions) (sc := defScope s_law_positions) (by decide +kernel)) (fun _ _ _ _ _ => pg_name (i := 5) sc_law_positions.nd rfl (by first | exact Or.inl rfl | exact Or.inr rfl)) (fun _ _ _ _ _ => pts_nil) (fun _ _ _ _ _ => pe_op op_add (pv 5) (pe_ix (ixL K rfl) (pe_lst (pa_cons (pe_int) (pa_cons (pe_int) (pa_cons (D_law_taken.call (hr.mono (by decide)) (by rfl) (pa_cons (pv 0) (pa_cons (pe_int) pa_nil))) (pa_cons (D_law_taken.call (hr.mono (by decide)) (by rfl) (pa_cons (pv 0) (pa_cons (pv 3) pa_nil))) pa_nil))))) (D_law_taken.call (hr.mono (by decide)) (by rfl) (pa_cons (pv 0) (pa_cons (pe_int) pa_nil))) (fun _ _ => rfl))))
      (pss_one (ps_ret (D_law_settled.call (hr.mono (by decide)) (by rfl) (pa_cons (pv 1) (pa_cons (pv 4) pa_nil)))))), ?_⟩
  have hz : 100 ≤ sizeLine := by decide
  have n8 : n ≤ 8 := by have := hok.2.1; omega
  have nla : l ≠ a := fun e => by
    obtain ⟨i, z, k, h1, _⟩ := hrow
    rw [e, h1] at hL
    have e := HO.lst.inj (Option.some.inj hL)
    cases ls with
    | nil => cases e
    | cons x r => cases e
  walk_at "rd"
  refine ⟨by show 3 ≤ sizeLine; omega, fun l1 hl1 => ?_⟩
  have s1 := same_upd (o := .lst [.int 25, .int 25, .int 200]) hl1
  have n1 := hrow.ne hl1
  refine ⟨a, sc, ns, 3, rfl, hrow.mono s1, by omega, by omega, fun r1 H1 h10 h11 row1 b1 => ?_⟩
  have h1 := b1 _ _ n1 (upd_same (H := H) (a := l1) (o := .lst [.int 25, .int 25, .int 200]))
  have b1 := (same_but s1).trans b1
  obtain ⟨mo, hmo, hmo2⟩ : ∃ mo : Int, atI [V.int 25, .int 25, .int 200] r1 = some (.int mo) ∧ 25 ≤ mo ∧ mo ≤ 200 := by
    have : r1 = 0 ∨ r1 = 1 ∨ r1 = 2 := by omega
    rcases this with rfl | rfl | rfl
    · exact ⟨25, rfl, by omega, by omega⟩
    · exact ⟨25, rfl, by omega, by omega⟩
    · exact ⟨200, rfl, by omega, by omega⟩
  refine ⟨l1, _, r1, .int mo, rfl, rfl, .of h1, hmo, ?_⟩
  have hL1 := b1 _ _ nla hL
  walk_at "rd"
  refine ⟨⟨_, .of hL1⟩, fun D hD => ?_⟩
  have nDa := row1.ne hD
  have nDl : l ≠ D := ne_of_none hL1 hD
  refine lcList (xs := ls.map V.int) (fun i H' => ∃ ws : List Int, ws.length = i ∧ H' D = some (.lst (ws.map V.int)) ∧ RowAt K H' a sc ns ∧ But a H1 H' ∧ ∀ x ∈ ws, lo ≤ x ∧ x ≤ hi + 199)
    ⟨[], rfl, upd_same, row1.mono (same_upd hD), same_but (same_upd hD), fun x h => (by cases h)⟩ (fun i H' _ hPv => ?_) (fun i x H' hx' hPv => ?_) (fun H3 hPv => ?_)
  · obtain ⟨_, _, _, _, e4, _⟩ := hPv
    exact .of (e4 _ _ nla hL1)
  · obtain ⟨ws, e1, e2, e3, e4, e5⟩ := hPv
    obtain ⟨hi', rfl⟩ := ints_at hx'
    have hx : lo ≤ ls.getD i 0 ∧ ls.getD i 0 ≤ hi := by
      rw [List.getD_eq_getElem?_getD, List.getElem?_eq_getElem hi']
      exact hb _ (List.getElem_mem hi')
    generalize ls.getD i 0 = pc at hx
    walk_at "rd"
    refine ⟨a, sc, ns, 4, rfl, e3, by omega, by omega, fun c1 H4 c10 c11 row4 b4 => ?_⟩
    have e2 := b4 _ _ nDa e2
    have e4 := e4.trans b4
    walk_at "rd"
    refine ⟨a, sc, ns, mo, rfl, row4, by omega, by omega, fun c2 H5 c20 c21 row5 b5 => ?_⟩
    have e2 := b5 _ _ nDa e2
    have e4 := e4.trans b5
    walk_at "rd"
    refine ⟨by show 4 ≤ sizeLine; omega, fun l2 hl2 => ?_⟩
    have s2 := same_upd (o := .lst [.int 0, .int 0, .int c1, .int c2]) hl2
    have e2 := s2 _ _ e2
    have e4 := e4.trans (same_but s2)
    have n2 := row5.ne hl2
    refine ⟨a, sc, ns, 4, rfl, row5.mono s2, by omega, by omega, fun c3 H6 c30 c31 row6 b6 => ?_⟩
    have e2 := b6 _ _ nDa e2
    have e4 := e4.trans b6
    have h2 := b6 _ _ n2 (upd_same (H := H5) (a := l2) (o := .lst [.int 0, .int 0, .int c1, .int c2]))
    obtain ⟨ad, had, had2⟩ : ∃ ad : Int, atI [V.int 0, .int 0, .int c1, .int c2] c3 = some (.int ad) ∧ 0 ≤ ad ∧ ad ≤ 199 := by
      have : c3 = 0 ∨ c3 = 1 ∨ c3 = 2 ∨ c3 = 3 := by omega
      rcases this with rfl | rfl | rfl | rfl
      · exact ⟨0, rfl, by omega, by omega⟩
      · exact ⟨0, rfl, by omega, by omega⟩
      · exact ⟨c1, rfl, by omega, by omega⟩
      · exact ⟨c2, rfl, by omega, by omega⟩
    refine ⟨l2, _, c3, .int ad, rfl, rfl, .of h2, had, ?_⟩
    walk_at "rd"
    refine ⟨_, e2, by rw [List.length_map, e1]; omega, ws ++ [pc + ad], ?_, ?_, ?_, ?_, ?_⟩
    · rw [List.length_append, e1]
      rfl
    · rw [upd_same, List.map_append]
      rfl
    · exact row1.put hD e4 row6
    · exact e4.put hD
    · intro x hx2
      rcases List.mem_append.mp hx2 with hx2 | hx2
      · exact e5 x hx2
      · cases List.mem_singleton.mp hx2
        omega
  · obtain ⟨ws, e1, e2, row3, e4, e5⟩ := hPv
    rw [List.length_map] at e1
    have b3 := b1.trans e4
    obtain ⟨ys, hys⟩ := hrow.lst
    have hwn : ws.length = n := by omega
    obtain ⟨g1, g2, g3⟩ := settle_spec hok.2.2.2 hpl.holds hwn
    walk_at "rd"
    refine ⟨v, .ref D, n, rs, ws, rfl, hv.but b3 hys, hok.2.2.2, n8, ⟨D, rfl, .inl (.of e2)⟩, hwn, fun _ H4 p s4 hp4 hp => ?_, fun hnv => absurd g1 hnv⟩
    have hws : ∀ i, i < n → lo ≤ gd ws i ∧ gd ws i ≤ hi + 199 := fun i hi' => by
      unfold gd
      rw [List.getD_eq_getElem?_getD, List.getElem?_eq_getElem (by omega)]
      exact e5 _ (List.getElem_mem _)
    refine q H4 (.ref p) _ (row3.mono s4) (b3.trans (same_but s4)) ⟨p, rfl, .of hp⟩ (by rw [settleN_len]; exact hwn) g1 fun i hi' => ⟨Int.le_trans (hws i hi').1 (g2 i hi'), ?_⟩
    exact g3 (fun i => pl i + (hi + 199)) (hpl.up _) (fun i hi2 => by
      have := hws i hi2
      have := hpl.lo i
      show gd ws i ≤ pl i + (hi + 199)
      omega) i hi'
def s_law_start : Stmt := topS 60
abbrev n_law_start : List Str := ["_law_row", "_law_fleet_here", "_law_barge"]
abbrev p_law_start : List Str := ["_law_row", "_law_fleet_here"]
theorem sc_law_start : FnScope n_law_start p_law_start (defScope s_law_start) := ⟨rfl, rfl, rfl, by decide +kernel, rfl, by decide +kernel, by decide +kernel⟩
def sp_law_start (K : PySem.W.Frag) : Sp := fun vs H Q _ => ∃ (a sc : Addr) (ns : List Int) (v : V) (n : Nat) (rs : List Rope) (pl : Nat → Int), vs = [.ref a, v] ∧ RowAt K H a sc ns ∧ FleetV K H v n rs ∧ FleetOk n rs ∧ Pl n rs pl ∧
  ∀ H' r xs, RowAt K H' a sc ns → But a H H' → IntsT K H' r xs → xs.length = n → Valid xs rs → (∀ i, i < n → -4 ≤ gd xs i ∧ gd xs i ≤ pl i + 203) → Q r H'
theorem df_law_start (T : Here K mg "_law_start" s_law_start) (B : Blt mg) (D_law_taken : Df P w K mg base CX0 "_law_taken" 1 p_law_taken (sp_law_taken K)) (D_law_positions : Df P w K mg base CX0 "_law_positions" 2 p_law_positions (sp_law_positions K)) :
    Df P w K mg base CX0 "_law_start" 3 p_law_start (sp_law_start K) := by
  refine T.df sc_law_start (fun _ _ _ _ _ _ us hl => match us, hl with | [_, _], _ => rfl) (fun vs H Q E h => by obtain ⟨_, _, _, _, _, _, _, rfl, _⟩ := h; rfl) (fun f cdv A outer s H vs Q E hr h => ?_)
  obtain ⟨a, sc, ns, v, n, rs, pl, rfl, hrow, hv, hok, hpl, q⟩ := h
  refine ⟨_, pss_one (ps_ret (D_law_positions.call (hr.mono (by decide)) (by rfl) (pa_cons (pv 0) (pa_cons (pv 1) (pa_cons (pe_lc (own := [("_law_barge", 2)]) rfl sc_law_start.nd (pi_range1 (by rfl) B.range (pa_cons (pe_ix (ixT K rfl) (pv 1) (pe_int) (fun _ _ => rfl)) pa_nil)) (blkOk_by (N := n_law_start) (sc := defScope s_law_start) (by decide +kernel)) (fun _ _ _ _ _ => pg_name (i := 2) sc_law_start.nd rfl (by first | exact Or.inl rfl | exact Or.inr rfl)) (fun _ _ _ _ _ => pts_nil) (fun _ _ _ _ _ => pe_op op_sub (D_law_taken.call (hr.mono (by decide)) (by rfl) (pa_cons (pv 0) (pa_cons (pe_int) pa_nil))) (pe_int))) pa_nil))))), ?_⟩
  have hz : 100 ≤ sizeLine := by decide
  have n8 : n ≤ 8 := by have := hok.2.1; omega
  obtain ⟨x, b, xs, rfl, hx, hx2⟩ := id hv
  walk_at "rd"
  refine ⟨x, _, 0, _, rfl, rfl, hx, atI_nat (j := 0) rfl, ?_⟩
  walk_at "rd"
  refine ⟨by omega, by omega, fun D hD => ?_⟩
  have nDa := hrow.ne hD
  refine lcRange (fun i H' => ∃ ws : List Int, ws.length = i ∧ H' D = some (.lst (ws.map V.int)) ∧ RowAt K H' a sc ns ∧ But a H H' ∧ ∀ x ∈ ws, -4 ≤ x ∧ x ≤ 4)
    ⟨[], rfl, upd_same, hrow.mono (same_upd hD), same_but (same_upd hD), fun x h => (by cases h)⟩ (fun i H' hi' hPv => ?_) (fun H3 hPv => ?_)
  · obtain ⟨ws, e1, e2, e3, e4, e5⟩ := hPv
    walk_at "rd"
    refine ⟨a, sc, ns, 9, rfl, e3, by omega, by omega, fun c1 H4 c10 c11 row4 b4 => ?_⟩
    have e2 := b4 _ _ nDa e2
    have e4 := e4.trans b4
    walk_at "rd"
    refine ⟨_, e2, by rw [List.length_map, e1]; omega, ws ++ [c1 - 4], ?_, ?_, ?_, ?_, ?_⟩
    · rw [List.length_append, e1]
      rfl
    · rw [upd_same, List.map_append]
      rfl
    · exact hrow.put hD e4 row4
    · exact e4.put hD
    · intro x hx2
      rcases List.mem_append.mp hx2 with hx2 | hx2
      · exact e5 x hx2
      · cases List.mem_singleton.mp hx2
        omega
  · obtain ⟨ws, e1, e2, e3, e4, e5⟩ := hPv
    obtain ⟨ys, hys⟩ := hrow.lst
    refine ⟨a, sc, ns, .ref x, D, n, rs, pl, ws, -4, 4, rfl, e3, hv.but e4 hys, hok, hpl, e2, e1, e5, fun H5 r ys r5 b5 i5 l5 v5 k5 => q H5 r ys r5 (e4.trans b5) i5 l5 v5 fun i hi => ⟨(k5 i hi).1, ?_⟩⟩
    have := (k5 i hi).2
    omega
end
end Hx

set_option Elab.async false
set_option linter.all false
set_option maxRecDepth 100000
set_option maxHeartbeats 4000000
namespace Hx
open PySem PySem.Spec PyProof.Rows L2
local macro_rules | `(tactic| walk_at "rd") => `(tactic| (try simp only [q_var, q_c, q_op, q_un, q_rI, q_rI0, q_rU, q_rEq, q_rNe, q_test, q_tB, q_and, q_or, q_not, q_andV, q_orV, q_notV, q_if, q_isN, q_notN, q_chain, q_next, q_seq, q_break, q_cont, q_drop, q_ret, q_retN, q_ifS, q_never, q_gN, q_gNil, q_gCons, q_gTup, q_gSub, q_asg, q_par, q_aug, q_nil, q_cons, q_tup, q_lst, q_call, q_cb, q_noPart, q_part, q_sl, q_bm0, q_bm, q_yes, q_for, q_lc, q_iList, q_iTup, q_iRng1, q_iEnumT, q_iEnum, q_iRng2, q_iZipA, q_iZipM, q_ipI, q_ckw, q_len, q_listOf, q_tupleOf, L2.start, cx_K, wipe, List.map_cons, List.map_nil, List.length_cons, List.length_nil, List.cons_append, List.nil_append, List.append_nil, List.replicate, List.getElem?_cons_zero, List.getElem?_cons_succ, List.set_cons_zero, List.set_cons_succ, Option.some.injEq, List.cons.injEq, exists_eq_left', exists_eq_left, exists_and_left, V.int.injEq, V.bl.injEq, V.ref.injEq, if_true, if_false, Bool.not_true, Bool.not_false, true_and, and_true, Bool.false_eq_true, ite_true, ite_false, Nat.reduceAdd, Nat.reduceSub, reduceCtorEq, decide_false, decide_true, Int.toNat_natCast, false_and, exists_false, or_false, false_or]))
section
variable {P : Program} {w : World} {K : PySem.W.Frag} {mg : Str → Option Value} {base : Heap}
end
end Hx

set_option Elab.async false
set_option linter.all false
set_option maxRecDepth 100000
set_option maxHeartbeats 4000000
namespace Hx
open PySem PySem.Spec PyProof.Rows L2
local macro_rules | `(tactic| walk_at "rd") => `(tactic| (try simp only [q_var, q_c, q_op, q_un, q_rI, q_rI0, q_rU, q_rEq, q_rNe, q_test, q_tB, q_and, q_or, q_not, q_andV, q_orV, q_notV, q_if, q_isN, q_notN, q_chain, q_next, q_seq, q_break, q_cont, q_drop, q_ret, q_retN, q_ifS, q_never, q_gN, q_gNil, q_gCons, q_gTup, q_gSub, q_asg, q_par, q_aug, q_nil, q_cons, q_tup, q_lst, q_call, q_cb, q_noPart, q_part, q_sl, q_bm0, q_bm, q_yes, q_for, q_lc, q_iList, q_iTup, q_iRng1, q_iEnumT, q_iEnum, q_iRng2, q_iZipA, q_iZipM, q_ipI, q_ckw, q_len, q_listOf, q_tupleOf, L2.start, cx_K, wipe, List.map_cons, List.map_nil, List.length_cons, List.length_nil, List.cons_append, List.nil_append, List.append_nil, List.replicate, List.getElem?_cons_zero, List.getElem?_cons_succ, List.set_cons_zero, List.set_cons_succ, Option.some.injEq, List.cons.injEq, exists_eq_left', exists_eq_left, exists_and_left, V.int.injEq, V.bl.injEq, V.ref.injEq, if_true, if_false, Bool.not_true, Bool.not_false, true_and, and_true, Bool.false_eq_true, ite_true, ite_false, Nat.reduceAdd, Nat.reduceSub, reduceCtorEq, decide_false, decide_true, Int.toNat_natCast, false_and, exists_false, or_false, false_or]))
section
variable {P : Program} {w : World} {K : PySem.W.Frag} {mg : Str → Option Value} {base : Heap}
theorem TabAt.but {H H' : Hp} {a t : Addr} {as : List Addr} {n : Nat} {d : Tab} (h : TabAt H t as n d) (e : But a H H') (n1 : t ≠ a) (n2 : a ∉ as) : TabAt H' t as n d :=
  ⟨e _ _ n1 h.top, h.len, h.nd, h.nt, fun i b hb => e _ _ (fun z => n2 (by rw [← z]; exact List.mem_of_getElem? hb)) (h.row i b hb)⟩
theorem HaulV.but {H H' : Hp} {a : Addr} {ys : List V} {v : V} {h : Nat × Int} (k : HaulV K H v h) (e : But a H H') (ha : H a = some (.lst ys)) : HaulV K H' v h := by
  obtain ⟨c, rfl, k⟩ := k
  exact ⟨c, rfl, sqt_but e ha k⟩
theorem natV_ints (ks : List Nat) : natV ks = (ks.map fun (k : Nat) => (k : Int)).map V.int := by
  unfold natV
  rw [List.map_map]
  rfl
/-- cur is within the law's bounds -/
def Bnd (n : Nat) (pl : Nat → Int) (xs : List Int) (M : Int) : Prop := ∀ i, i < n → -4 ≤ gd xs i ∧ gd xs i ≤ pl i + M
theorem Bnd.range {n : Nat} {rs : List Rope} {pl : Nat → Int} {xs : List Int} {M : Int} (h : Bnd n pl xs M) (hp : Pl n rs pl) (hl : xs.length = n) (hM : M ≤ 5000) : InRange xs := fun x hx => by
  obtain ⟨i, hi, rfl⟩ := List.getElem_of_mem hx
  have h1 := h i (by omega)
  have h2 := hp.hi i
  unfold gd at h1
  rw [List.getD_eq_getElem?_getD, List.getElem?_eq_getElem hi] at h1
  simp only [Option.getD_some] at h1
  omega
theorem Bnd.move {n : Nat} {rs : List Rope} {pl : Nat → Int} {xs : List Int} {M p : Int} (h : Bnd n pl xs M) (hp : Pl n rs pl) (hl : xs.length = n) {b : Nat} (hb : b < n) (h1 : gd xs b ≤ p) (h2 : p ≤ gd xs b + 39) : Bnd n pl (moveD (chainTab n rs) xs b p) (M + 39) := fun i hi => by
  refine ⟨Int.le_trans (h i hi).1 (move_ge _ _ _ _ (by omega)), ?_⟩
  exact move_least (y := fun i => pl i + (M + 39)) hl (hp.up _) (fun j hj => by
    have := (h j hj).2
    show gd xs j ≤ pl j + (M + 39)
    omega) (by
    have := (h b hb).2
    show p ≤ pl b + (M + 39)
    omega) i hi
/-- hauls at refs -/
def HaulsX (K : PySem.W.Frag) (H : Hp) (xs : List V) (hs : List (Nat × Int)) : Prop := xs.length = hs.length ∧ ∀ (i : Nat) x, xs[i]? = some x → ∃ h, hs[i]? = some h ∧ HaulV K H x h
theorem HaulsX.same {H H' : Hp} {xs : List V} {hs : List (Nat × Int)} (h : HaulsX K H xs hs) (e : Same H H') : HaulsX K H' xs hs :=
  ⟨h.1, fun i x hx => let ⟨k, k1, k2⟩ := h.2 i x hx; ⟨k, k1, k2.mono e⟩⟩
theorem HaulsX.but {H H' : Hp} {a : Addr} {ys xs : List V} {hs : List (Nat × Int)} (h : HaulsX K H xs hs) (e : But a H H') (ha : H a = some (.lst ys)) : HaulsX K H' xs hs :=
  ⟨h.1, fun i x hx => let ⟨k, k1, k2⟩ := h.2 i x hx; ⟨k, k1, k2.but e ha⟩⟩
theorem HaulsX.snoc {H : Hp} {xs : List V} {hs : List (Nat × Int)} {v : V} {r : Nat × Int} (h : HaulsX K H xs hs) (k : HaulV K H v r) : HaulsX K H (xs ++ [v]) (hs ++ [r]) := by
  refine ⟨by rw [List.length_append, List.length_append, h.1]; rfl, fun i x hx => ?_⟩
  by_cases hi : i < xs.length
  · rw [List.getElem?_append_left hi] at hx
    obtain ⟨u, hu, ku⟩ := h.2 i x hx
    exact ⟨u, by rw [List.getElem?_append_left (by rw [← h.1]; exact hi)]; exact hu, ku⟩
  · rw [List.getElem?_append_right (by omega)] at hx
    have e : i - xs.length = 0 := by
      cases hz : i - xs.length with
      | zero => rfl
      | succ k =>
        rw [hz] at hx
        cases hx
    rw [e] at hx
    cases hx
    refine ⟨r, ?_, k⟩
    rw [List.getElem?_append_right (by rw [← h.1]; omega), ← h.1, e]
    rfl
/-- the state of the loop that hauls -/
structure HS (K : PySem.W.Frag) (a sc : Addr) (ns : List Int) (v : V) (t : Addr) (as : List Addr) (u : V) (n : Nat) (rs : List Rope) (xs : List Int) (L : Addr) (H : Hp) (c : V) (hX : List V) (hs : List (Nat × Int)) : Prop where
  row : RowAt K H a sc ns
  fleet : FleetV K H v n rs
  tab : TabAt H t as n (chainTab n rs)
  start : IntsT K H u xs
  cur : IntsT K H c (runD (chainTab n rs) xs hs)
  lst : H L = some (.lst hX)
  hx : HaulsX K H hX hs
section
variable {a sc t L : Addr} {ns : List Int} {v u c : V} {as : List Addr} {n : Nat} {rs : List Rope} {xs : List Int} {H H' H0 : Hp} {hX : List V} {hs : List (Nat × Int)}
theorem HS.call (h : HS K a sc ns v t as u n rs xs L H c hX hs) (nta : t ≠ a) (naa : a ∉ as) (nL : L ≠ a) (r : RowAt K H' a sc ns) (b : But a H H') : HS K a sc ns v t as u n rs xs L H' c hX hs := by
  obtain ⟨_, k⟩ := h.row.lst
  exact ⟨r, h.fleet.but b k, h.tab.but b nta naa, h.start.but b k, h.cur.but b k, b _ _ nL h.lst, h.hx.but b k⟩
theorem HS.new (h : HS K a sc ns v t as u n rs xs L H c hX hs) (e : Same H H') : HS K a sc ns v t as u n rs xs L H' c hX hs :=
  ⟨h.row.mono e, h.fleet.mono e, h.tab.mono e, h.start.mono e, h.cur.mono e, e _ _ h.lst, h.hx.same e⟩
theorem HS.app (h : HS K a sc ns v t as u n rs xs L H c hX hs) (h0 : H0 L = none) (r0 : RowAt K H0 a sc ns) (t0 : TabAt H0 t as n (chainTab n rs)) (b0 : But a H0 H) {y c' : V} {r : Nat × Int} (hy : HaulV K H y r) (hc : IntsT K H c' (runD (chainTab n rs) xs (hs ++ [r]))) :
    HS K a sc ns v t as u n rs xs L (upd H L (.lst (hX ++ [y]))) c' (hX ++ [y]) (hs ++ [r]) := by
  have b : But L H (upd H L (.lst (hX ++ [y]))) := but_upd
  refine ⟨r0.put h0 b0 h.row, h.fleet.but b h.lst, h.tab.but b (ne_of_none t0.top h0) (fun m => ?_), h.start.but b h.lst, hc.but b h.lst, upd_same, (h.hx.but b h.lst).snoc (hy.but b h.lst)⟩
  obtain ⟨i, hi, e⟩ := List.getElem_of_mem m
  have := t0.row i L (by rw [List.getElem?_eq_getElem hi, e])
  rw [h0] at this
  cases this
end
end
end Hx

set_option Elab.async false
set_option linter.all false
set_option maxRecDepth 100000
set_option maxHeartbeats 4000000
namespace Hx
open PySem PySem.Spec PyProof.Rows L2
local macro_rules | `(tactic| walk_at "rd") => `(tactic| (try simp only [q_var, q_c, q_op, q_un, q_rI, q_rI0, q_rU, q_rEq, q_rNe, q_test, q_tB, q_and, q_or, q_not, q_andV, q_orV, q_notV, q_if, q_isN, q_notN, q_chain, q_next, q_seq, q_break, q_cont, q_drop, q_ret, q_retN, q_ifS, q_never, q_gN, q_gNil, q_gCons, q_gTup, q_gSub, q_asg, q_par, q_aug, q_nil, q_cons, q_tup, q_lst, q_call, q_cb, q_noPart, q_part, q_sl, q_bm0, q_bm, q_yes, q_for, q_lc, q_iList, q_iTup, q_iRng1, q_iEnumT, q_iEnum, q_iRng2, q_iZipA, q_iZipM, q_ipI, q_ckw, q_len, q_listOf, q_tupleOf, L2.start, cx_K, wipe, List.map_cons, List.map_nil, List.length_cons, List.length_nil, List.cons_append, List.nil_append, List.append_nil, List.replicate, List.getElem?_cons_zero, List.getElem?_cons_succ, List.set_cons_zero, List.set_cons_succ, Option.some.injEq, List.cons.injEq, exists_eq_left', exists_eq_left, exists_and_left, V.int.injEq, V.bl.injEq, V.ref.injEq, if_true, if_false, Bool.not_true, Bool.not_false, true_and, and_true, Bool.false_eq_true, ite_true, ite_false, Nat.reduceAdd, Nat.reduceSub, reduceCtorEq, decide_false, decide_true, Int.toNat_natCast, false_and, exists_false, or_false, false_or]))
theorem way_two {n : Nat} {rs qs : List Rope} {xs : List Int} (h : WayOk n rs xs) (hok : FleetOk n qs) (e : chainTab n rs = chainTab n qs) : WayOk n qs xs :=
  ⟨hok, h.len, h.range, fun r hr => by
    obtain ⟨p, hp, hl⟩ := chain_rope (n := n) hr r.l rfl
    rw [← e] at hp
    have hv : ∀ r ∈ rs, HoldsR (gd xs) r := fun r hr => h.valid r hr
    have := sound_chain (n := n) hv _ _ p hp
    show gd xs _ - gd xs _ ≤ r.l
    omega⟩
theorem low_tab {n : Nat} {rs : List Rope} {pl : Nat → Int} (h : Pl n rs pl) : ∀ a c p, chainTab n rs a c = some p → -200 ≤ p := fun a c p e => by
  have h1 := sound_chain (n := n) h.holds a c p e
  have h2 := h.lo a
  have h3 := h.hi c
  omega
section
variable {P : Program} {w : World} {K : PySem.W.Frag} {mg : Str → Option Value} {base : Heap}
def s_law_are_alike : Stmt := topS 61
abbrev n_law_are_alike : List Str := ["_law_row", "_law_one", "_law_two", "_law_start_here", "_law_count", "_law_front", "_law_k", "_law_barge", "_law_limit"]
abbrev p_law_are_alike : List Str := ["_law_row", "_law_one", "_law_two", "_law_start_here"]
theorem sc_law_are_alike : FnScope n_law_are_alike p_law_are_alike (defScope s_law_are_alike) := ⟨rfl, rfl, rfl, by decide +kernel, rfl, by decide +kernel, by decide +kernel⟩
def sp_law_are_alike (K : PySem.W.Frag) : Sp := fun vs H Q _ => ∃ (a sc : Addr) (ns : List Int) (v1 v2 u : V) (n : Nat) (rs qs : List Rope) (pl : Nat → Int) (xs : List Int), vs = [.ref a, v1, v2, u] ∧ RowAt K H a sc ns ∧ FleetV K H v1 n rs ∧ FleetV K H v2 n qs ∧ FleetOk n rs ∧ FleetOk n qs ∧ n ≤ 5 ∧ chainTab n rs = chainTab n qs ∧ Pl n rs pl ∧
  IntsT K H u xs ∧ WayOk n rs xs ∧ (∀ i, i < n → gd xs i ≤ 291) ∧ ∀ H', RowAt K H' a sc ns → But a H H' → Q (.bl true) H'
theorem df_law_are_alike (T : Here K mg "_law_are_alike" s_law_are_alike) (B : Blt mg) (D_chain_length : Df P w K mg base CX0 "chain_length" 5 p_chain_length (sp_chain_length K)) (D_law_taken : Df P w K mg base CX0 "_law_taken" 1 p_law_taken (sp_law_taken K))
    (D_haul : Df P w K mg base CX0 "haul" 7 p_haul (sp_haul K)) (D_count_positions : Df P w K mg base CX0 "count_positions" 7 p_count_positions (sp_count_positions K)) : Df P w K mg base CX0 "_law_are_alike" 8 p_law_are_alike (sp_law_are_alike K) := by
  refine T.df sc_law_are_alike (fun _ _ _ _ _ _ us hl => match us, hl with | [_, _, _, _], _ => rfl) (fun vs H Q E h => by obtain ⟨_, _, _, _, _, _, _, _, _, _, _, rfl, _⟩ := h; rfl) (fun f cdv A outer s H vs Q E hr h => ?_)
  obtain ⟨a, sc, ns, v1, v2, u, n, rs, qs, pl, xs, rfl, row, hv1, hv2, hok1, hok2, n5, htab, hpl, hu, hw, h291, q⟩ := h
  refine ⟨_, pss_cons (ps_set (i := 4) sc_law_are_alike.nd rfl (by first | exact Or.inl rfl | exact Or.inr rfl) (pe_ix (ixT K rfl) (pv 1) (pe_int) (fun _ _ => rfl)))
      (pss_cons (ps_for PassesOwn.never rfl (pi_range1 (by rfl) B.range (pa_cons (pv 4) pa_nil)) (pg_name (i := 5) sc_law_are_alike.nd rfl (by first | exact Or.inl rfl | exact Or.inr rfl)) (pss_one (ps_if (pt_cmpR (neD K rfl hr.units) (pe_lc (own := [("_law_k", 6)]) rfl sc_law_are_alike.nd (pi_range1 (by rfl) B.range (pa_cons (pv 4) pa_nil)) (blkOk_by (N := n_law_are_alike) (sc := defScope s_law_are_alike) (by decide +kernel)) (fun _ _ _ _ _ => pg_name (i := 6) sc_law_are_alike.nd rfl (by first | exact Or.inl rfl | exact Or.inr rfl)) (fun _ _ _ _ _ => pts_nil) (fun _ _ _ _ _ => D_chain_length.call (hr.mono (by decide)) (by rfl) (pa_cons (pv 1) (pa_cons (pv 5) (pa_cons (pv 6) pa_nil))))) (pe_lc (own := [("_law_k", 6)]) rfl sc_law_are_alike.nd (pi_range1 (by rfl) B.range (pa_cons (pv 4) pa_nil)) (blkOk_by (N := n_law_are_alike) (sc := defScope s_law_are_alike) (by decide +kernel)) (fun _ _ _ _ _ => pg_name (i := 6) sc_law_are_alike.nd rfl (by first | exact Or.inl rfl | exact Or.inr rfl)) (fun _ _ _ _ _ => pts_nil) (fun _ _ _ _ _ => D_chain_length.call (hr.mono (by decide)) (by rfl) (pa_cons (pv 2) (pa_cons (pv 5) (pa_cons (pv 6) pa_nil))))) (nomark _)) (pss_one (ps_ret (pe_bl))) (pss_nil))))
      (pss_cons (ps_set (i := 7) sc_law_are_alike.nd rfl (by first | exact Or.inl rfl | exact Or.inr rfl) (D_law_taken.call (hr.mono (by decide)) (by rfl) (pa_cons (pv 0) (pa_cons (pv 4) pa_nil))))
      (pss_cons (ps_if (pt_cmpR (neD K rfl hr.units) (D_haul.call (hr.mono (by decide)) (by rfl) (pa_cons (pv 1) (pa_cons (pv 3) (pa_cons (pv 7) (pa_cons (pe_op op_add (pe_ix (ixT K rfl) (pv 3) (pv 7) (fun _ _ => rfl)) (pe_int)) pa_nil))))) (D_haul.call (hr.mono (by decide)) (by rfl) (pa_cons (pv 2) (pa_cons (pv 3) (pa_cons (pv 7) (pa_cons (pe_op op_add (pe_ix (ixT K rfl) (pv 3) (pv 7) (fun _ _ => rfl)) (pe_int)) pa_nil))))) (nomark _)) (pss_one (ps_ret (pe_bl))) (pss_nil))
      (pss_cons (ps_set (i := 8) sc_law_are_alike.nd rfl (by first | exact Or.inl rfl | exact Or.inr rfl) (D_law_taken.call (hr.mono (by decide)) (by rfl) (pa_cons (pv 0) (pa_cons (pe_int) pa_nil))))
      (pss_one (ps_ret (pe_cmpR op_eq (D_count_positions.call (hr.mono (by decide)) (by rfl) (pa_cons (pv 1) (pa_cons (pv 8) pa_nil))) (D_count_positions.call (hr.mono (by decide)) (by rfl) (pa_cons (pv 2) (pa_cons (pv 8) pa_nil))) (nomark _)))))))), ?_⟩
  have hz : 100 ≤ sizeLine := by decide
  have n1 : 1 ≤ n := by have := hok1.1; omega
  have D1 : Diag n (chainTab n rs) := diag_of_pot hpl.holds
  have D2 : Diag n (chainTab n qs) := by rw [← htab]; exact D1
  have hw2 := way_two hw hok2 htab
  obtain ⟨fa, fb, rfl, ha, hb⟩ := hv1.at
  walk_at "rd"
  refine ⟨fa, _, 0, _, rfl, rfl, ha, atI_nat (j := 0) rfl, ?_⟩
  walk_at "rd"
  refine ⟨by omega, by omega, ?_⟩
  obtain ⟨W, eW⟩ : ∃ W : Nat → L2.St → Hp → Prop, W = fun i σ H' => ∃ x5 x6, σ = [some (.ref a), some (.ref fa), some v2, some u, some (.int n), x5, x6, none, none] ∧ Same H H' := ⟨_, rfl⟩
  refine forRange W (by rw [eW]; exact ⟨_, _, rfl, .refl _⟩) (fun i σ H' hi hPv => ?_) (fun σ H' hPv => ?_) <;> rw [eW] at hPv
  · obtain ⟨x5, x6, rfl, e⟩ := hPv
    walk_at "rd"
    refine ⟨by omega, by omega, fun D hD => ?_⟩
    refine lcRange (fun j H2 => Same H' H2 ∧ H2 D = some (.lst (((List.range j).map fun j => chainTab n rs i j).map ovV))) ⟨same_upd hD, upd_same⟩ (fun j H2 hj hPv => ?_) (fun H2 hPv => ?_)
    · obtain ⟨e2, hL⟩ := hPv
      walk_at "rd"
      refine ⟨.ref fa, n, rs, i, j, rfl, hv1.mono (e.trans e2), hok1, hi, hj, D1, fun H3 s3 => ?_⟩
      refine ⟨_, s3 _ _ hL, by rw [List.length_map, List.length_map, List.length_range]; omega, fun z o hz' => ?_, ?_⟩
      · rw [upd_ne (ne_of_none hz' hD)]
        exact s3 _ _ (e2 z o hz')
      · rw [upd_same, List.range_succ, List.map_append, List.map_append]
        rfl
    · obtain ⟨e2, hL1⟩ := hPv
      have e3 := e.trans e2
      refine ⟨by omega, by omega, fun D2' hD2 => ?_⟩
      refine lcRange (fun j H3 => Same H2 H3 ∧ H3 D2' = some (.lst (((List.range j).map fun j => chainTab n qs i j).map ovV))) ⟨same_upd hD2, upd_same⟩ (fun j H3 hj hPv => ?_) (fun H3 hPv => ?_)
      · obtain ⟨e4, hL⟩ := hPv
        walk_at "rd"
        refine ⟨v2, n, qs, i, j, rfl, hv2.mono (e3.trans e4), hok2, hi, hj, D2, fun H4 s4 => ?_⟩
        refine ⟨_, s4 _ _ hL, by rw [List.length_map, List.length_map, List.length_range]; omega, fun z o hz' => ?_, ?_⟩
        · rw [upd_ne (ne_of_none hz' hD2)]
          exact s4 _ _ (e4 z o hz')
        · rw [upd_same, List.range_succ, List.map_append, List.map_append]
          rfl
      · obtain ⟨e4, hL2⟩ := hPv
        rw [← htab] at hL2
        refine ne_same (.lst (.of (e4 _ _ hL1)) (dp_opts K H3 _)) (.lst (.of hL2) (dp_opts K H3 _)) (shaped_opts_l _) ⟨false, rfl, ?_⟩
        simp only [Bool.false_eq_true, ite_false]
        rw [eW]
        exact ⟨_, _, rfl, e3.trans e4⟩
  · obtain ⟨x5, x6, rfl, e⟩ := hPv
    have row := row.mono e
    have hv1 := hv1.mono e
    have hv2 := hv2.mono e
    have hu := hu.mono e
    walk_at "rd"
    refine ⟨a, sc, ns, n, rfl, row, by omega, by omega, fun bb H1 b0 b1 row1 bt => ?_⟩
    obtain ⟨bb, rfl⟩ := nat_at b0
    obtain ⟨_, k⟩ := row.lst
    have hv1 := hv1.but bt k
    have hv2 := hv2.but bt k
    have hu := hu.but bt k
    have bt := (same_but (a := a) e).trans bt
    have hbn : bb < n := by omega
    have hxl := hw.len
    have hbd := h291 bb hbn
    have hgd : gd xs bb = xs.getD bb 0 := rfl
    obtain ⟨cu, rfl, hcu⟩ := id hu
    walk_at "rd"
    refine ⟨cu, _, bb, _, rfl, rfl, hcu, atI_nat (at_ints (by omega)), ?_⟩
    walk_at "rd"
    refine ⟨.ref fa, .ref cu, n, rs, xs, bb, _, rfl, hv1, hu, hw, hbn, by omega, by omega, fun H2 r2 s2 hr2 => ?_⟩
    have hcu2 := sqt_same s2 hcu
    refine ⟨cu, _, bb, _, rfl, rfl, hcu2, atI_nat (at_ints (by omega)), ?_⟩
    refine ⟨_, _, rfl, rfl, ?_⟩
    refine ⟨v2, .ref cu, n, qs, xs, bb, _, rfl, hv2.mono s2, hu.mono s2, hw2, hbn, by omega, by omega, fun H3 r3 s3 hr3 => ?_⟩
    rw [← htab] at hr3
    obtain ⟨c2, rfl, hc2⟩ := hr2.mono s3
    obtain ⟨c3, rfl, hc3⟩ := hr3
    refine ne_same (dp_ints_t hc2) (dp_ints_t hc3) (shaped_opts_t _) ⟨false, rfl, ?_⟩
    simp only [Bool.false_eq_true, ite_false]
    have s3 := s2.trans s3
    refine ⟨a, sc, ns, 5, rfl, row1.mono s3, by omega, by omega, fun lim H4 l0 l1 row4 b4 => ?_⟩
    obtain ⟨_, k⟩ := (row1.mono s3).lst
    have hv1 := (hv1.mono s3).but b4 k
    have hv2 := (hv2.mono s3).but b4 k
    have b5 := (bt.trans (same_but s3)).trans b4
    walk_at "rd"
    refine ⟨.ref fa, n, rs, lim, rfl, hv1, hok1, n5, l0, by omega, D1, low_tab hpl, fun H5 s5 => ?_⟩
    refine ⟨v2, n, qs, lim, rfl, hv2.mono s5, hok2, n5, l0, by omega, D2, by rw [← htab]; exact low_tab hpl, fun H6 s6 => ?_⟩
    rw [← htab]
    refine ⟨rfl, ?_⟩
    rw [decide_eq_true rfl]
    exact q _ (row4.mono (s5.trans s6)) (b5.trans (same_but (s5.trans s6)))
end
end Hx

set_option Elab.async false
set_option linter.all false
set_option maxRecDepth 100000
set_option maxHeartbeats 4000000
namespace Hx
open PySem PySem.Spec PyProof.Rows L2
local macro_rules | `(tactic| walk_at "rd") => `(tactic| (try simp only [q_var, q_c, q_op, q_un, q_rI, q_rI0, q_rU, q_rEq, q_rNe, q_test, q_tB, q_and, q_or, q_not, q_andV, q_orV, q_notV, q_if, q_isN, q_notN, q_chain, q_next, q_seq, q_break, q_cont, q_drop, q_ret, q_retN, q_ifS, q_never, q_gN, q_gNil, q_gCons, q_gTup, q_gSub, q_asg, q_par, q_aug, q_nil, q_cons, q_tup, q_lst, q_call, q_cb, q_noPart, q_part, q_sl, q_bm0, q_bm, q_yes, q_for, q_lc, q_iList, q_iTup, q_iRng1, q_iEnumT, q_iEnum, q_iRng2, q_iZipA, q_iZipM, q_ipI, q_ckw, q_len, q_listOf, q_tupleOf, L2.start, cx_K, wipe, List.map_cons, List.map_nil, List.length_cons, List.length_nil, List.cons_append, List.nil_append, List.append_nil, List.replicate, List.getElem?_cons_zero, List.getElem?_cons_succ, List.set_cons_zero, List.set_cons_succ, Option.some.injEq, List.cons.injEq, exists_eq_left', exists_eq_left, exists_and_left, V.int.injEq, V.bl.injEq, V.ref.injEq, if_true, if_false, Bool.not_true, Bool.not_false, true_and, and_true, Bool.false_eq_true, ite_true, ite_false, Nat.reduceAdd, Nat.reduceSub, reduceCtorEq, decide_false, decide_true, Int.toNat_natCast, false_and, exists_false, or_false, false_or]))
theorem holds_imp {n : Nat} {rs : List Rope} {y : Nat → Int} (hy : ∀ r ∈ rs, HoldsR y r) {q : Rope} (h : impD (chainTab n rs) q = true) : HoldsR y q := by
  obtain ⟨p, hp, hl⟩ := imp_le.mp h q.l rfl
  have := sound_chain (n := n) hy _ _ p hp
  show y _ - y _ ≤ q.l
  omega
section
variable {P : Program} {w : World} {K : PySem.W.Frag} {mg : Str → Option Value} {base : Heap}
def s_law_is_rope : Stmt := topS 62
abbrev n_law_is_rope : List Str := ["_law_row", "_law_fleet_here", "_law_start_here", "_law_rope", "_law_count", "_law_ropes", "_law_front", "_law_rear", "_law_length", "_law_told", "_law_more", "_law_some", "_law_short", "_law_one"]
abbrev p_law_is_rope : List Str := ["_law_row", "_law_fleet_here", "_law_start_here", "_law_rope"]
theorem sc_law_is_rope : FnScope n_law_is_rope p_law_is_rope (defScope s_law_is_rope) := ⟨rfl, rfl, rfl, by decide +kernel, rfl, by decide +kernel, by decide +kernel⟩
def sp_law_is_rope (K : PySem.W.Frag) : Sp := fun vs H Q _ => ∃ (a sc : Addr) (ns : List Int) (v u : V) (c : Addr) (n : Nat) (rs : List Rope) (pl : Nat → Int) (xs : List Int) (q : Rope), vs = [.ref a, v, u, .ref c] ∧ RowAt K H a sc ns ∧ FleetV K H v n rs ∧ FleetOk n rs ∧ n ≤ 5 ∧ Pl n rs pl ∧
  IntsT K H u xs ∧ WayOk n rs xs ∧ (∀ i, i < n → gd xs i ≤ 291) ∧ SqT K H c [.int q.f, .int q.r, .int q.l] ∧ RopeOk n q ∧ ∀ H', RowAt K H' a sc ns → But a H H' → Q (.bl true) H'
theorem df_law_is_rope (T : Here K mg "_law_is_rope" s_law_is_rope) (B : Blt mg) (D_counterexample : Df P w K mg base CX0 "counterexample" 5 p_counterexample (sp_counterexample K)) (D_implied : Df P w K mg base CX0 "implied" 5 p_implied (sp_implied K))
    (D_broken_ropes : Df P w K mg base CX0 "broken_ropes" 5 p_broken_ropes (sp_broken_ropes K)) (D_missing_rope : Df P w K mg base CX0 "missing_rope" 5 p_missing_rope (sp_missing_rope K)) (D_law_are_alike : Df P w K mg base CX0 "_law_are_alike" 8 p_law_are_alike (sp_law_are_alike K))
    (D_haul : Df P w K mg base CX0 "haul" 7 p_haul (sp_haul K)) (D_shortest_ropes : Df P w K mg base CX0 "shortest_ropes" 5 p_shortest_ropes (sp_shortest_ropes K)) : Df P w K mg base CX0 "_law_is_rope" 9 p_law_is_rope (sp_law_is_rope K) := by
  refine T.df sc_law_is_rope (fun _ _ _ _ _ _ us hl => match us, hl with | [_, _, _, _], _ => rfl) (fun vs H Q E h => by obtain ⟨_, _, _, _, _, _, _, _, _, _, _, rfl, _⟩ := h; rfl) (fun f cdv A outer s H vs Q E hr h => ?_)
  obtain ⟨a, sc, ns, v, u, c, n, rs, pl, xs, q0, rfl, row, hv, hok, n5, hpl, hu, hw, h291, hc, hq, q⟩ := h
  refine ⟨_, pss_cons (ps_asg (pv 1) (pgTup K rfl (n := 2) rfl (pgs_cons (pg_name (i := 4) sc_law_is_rope.nd rfl (by first | exact Or.inl rfl | exact Or.inr rfl)) (pgs_cons (pg_name (i := 5) sc_law_is_rope.nd rfl (by first | exact Or.inl rfl | exact Or.inr rfl)) pgs_nil))))
      (pss_cons (ps_asg (pv 3) (pgTup K rfl (n := 3) rfl (pgs_cons (pg_name (i := 6) sc_law_is_rope.nd rfl (by first | exact Or.inl rfl | exact Or.inr rfl)) (pgs_cons (pg_name (i := 7) sc_law_is_rope.nd rfl (by first | exact Or.inl rfl | exact Or.inr rfl)) (pgs_cons (pg_name (i := 8) sc_law_is_rope.nd rfl (by first | exact Or.inl rfl | exact Or.inr rfl)) pgs_nil)))))
      (pss_cons (ps_par (i := 9) (j := 10) rfl sc_law_is_rope.nd rfl rfl (by decide) rfl rfl (pa_cons (D_counterexample.call (hr.mono (by decide)) (by rfl) (pa_cons (pv 1) (pa_cons (pv 3) pa_nil))) (pa_cons (pe_tup (pa_cons (pe_ix (ixT K rfl) (pv 1) (pe_int) (fun _ _ => rfl)) (pa_cons (pe_op (catA K rfl) (pe_slice (slA K rfl) (pe_ix (ixT K rfl) (pv 1) (pe_int) (fun _ _ => rfl)) po_none (po_some (pe_int))) (pe_tup (pa_cons (pv 3) pa_nil))) pa_nil))) pa_nil)) (by rfl))
      (pss_cons (ps_if (pt_cmpR op_ne (pe_cmpR op_isN (pv 9) (pe_non) (nomark _)) (D_implied.call (hr.mono (by decide)) (by rfl) (pa_cons (pv 1) (pa_cons (pv 3) pa_nil))) (nomark _)) (pss_one (ps_ret (pe_bl))) (pss_nil))
      (pss_cons (ps_if (pt_cmpR op_notN (pv 9) (pe_non) (nomark _)) (pss_cons (ps_if (PW.pt (pw_or (pt_cmpR (neD K rfl hr.units) (D_broken_ropes.call (hr.mono (by decide)) (by rfl) (pa_cons (pv 1) (pa_cons (pv 9) pa_nil))) (pe_lst (pa_nil)) (nomark _)) (pw_or1 (pt_cmpR op_le (pe_op op_sub (pe_ix (ixT K rfl) (pv 9) (pv 6) (fun _ _ => rfl)) (pe_ix (ixT K rfl) (pv 9) (pv 7) (fun _ _ => rfl))) (pv 8) (nomark _))))) (pss_one (ps_ret (pe_bl))) (pss_nil))
      (pss_one (ps_if (pt_cmpR op_ne (D_missing_rope.call (hr.mono (by decide)) (by rfl) (pa_cons (pv 1) (pa_cons (pe_tup (pa_cons (pv 4) (pa_cons (pe_op (catA K rfl) (pe_tup (pa_cons (pv 3) pa_nil)) (pe_slice (slA K rfl) (pv 5) po_none (po_some (pe_int)))) pa_nil))) pa_nil))) (pe_int) (nomark _)) (pss_one (ps_ret (pe_bl))) (pss_nil)))) (pss_one (ps_if (PW.pt (pw_and (pt_cmpR op_lt (pe_callB (lenQ K rfl) (by rfl) B.len (by decide +kernel) (pa_cons (pv 5) pa_nil)) (pe_int) (nomark _)) (pw_and1 (pt_not (pt_val (D_law_are_alike.call (hr.mono (by decide)) (by rfl) (pa_cons (pv 0) (pa_cons (pv 1) (pa_cons (pv 10) (pa_cons (pv 2) pa_nil)))))))))) (pss_one (ps_ret (pe_bl))) (pss_nil))))
      (pss_cons (ps_set (i := 11) sc_law_is_rope.nd rfl (by first | exact Or.inl rfl | exact Or.inr rfl) (pe_lst (pa_cons (pv 2) (pa_cons (D_haul.call (hr.mono (by decide)) (by rfl) (pa_cons (pv 1) (pa_cons (pv 2) (pa_cons (pv 6) (pa_cons (pe_op op_add (pe_ix (ixT K rfl) (pv 2) (pv 6) (fun _ _ => rfl)) (pe_int)) pa_nil))))) pa_nil))))
      (pss_cons (ps_set (i := 12) sc_law_is_rope.nd rfl (by first | exact Or.inl rfl | exact Or.inr rfl) (pe_ix (ixL K rfl) (D_shortest_ropes.call (hr.mono (by decide)) (by rfl) (pa_cons (pv 4) (pa_cons (pe_lst (pa_cons (pe_tup (pa_cons (pv 6) (pa_cons (pv 7) pa_nil))) pa_nil)) (pa_cons (pv 11) pa_nil)))) (pe_int) (fun _ _ => rfl)))
      (pss_cons (ps_if (pt_cmpR (neD K rfl hr.units) (pv 12) (pe_tup (pa_cons (pv 6) (pa_cons (pv 7) (pa_cons (pe_callB (maxQ K rfl rfl) (by rfl) B.max (by decide +kernel) (pa_cons (pe_lc (own := [("_law_one", 13)]) rfl sc_law_is_rope.nd (piList K rfl (pv 11)) (blkOk_by (N := n_law_is_rope) (sc := defScope s_law_is_rope) (by decide +kernel)) (fun _ _ _ _ _ => pg_name (i := 13) sc_law_is_rope.nd rfl (by first | exact Or.inl rfl | exact Or.inr rfl)) (fun _ _ _ _ _ => pts_nil) (fun _ _ _ _ _ => pe_op op_sub (pe_ix (ixT K rfl) (pv 13) (pv 6) (fun _ _ => rfl)) (pe_ix (ixT K rfl) (pv 13) (pv 7) (fun _ _ => rfl)))) pa_nil)) pa_nil)))) (nomark _)) (pss_one (ps_ret (pe_bl))) (pss_nil))
      (pss_one (ps_ret (pe_or (pe_cmpR op_notN (pv 9) (pe_non) (nomark _)) (pe_one (pe_cmpR op_le (pe_ix (ixT K rfl) (pv 12) (pe_int) (fun _ _ => rfl)) (pv 8) (nomark _))))))))))))), ?_⟩
  have hz : 100 ≤ sizeLine := by decide
  have n1 : 1 ≤ n := by have := hok.1; omega
  have D1 : Diag n (chainTab n rs) := diag_of_pot hpl.holds
  have F := Fit.of hok.2.2.2 hpl.holds
  have h40 := hok.2.2.1
  obtain ⟨fa, fb, ys, rfl, ha, hb, hx⟩ := hv.x
  have hqv : RopeV K H (.ref c) q0 := ⟨c, rfl, hc⟩
  obtain ⟨fn, hfn⟩ := nat_at hq.1
  obtain ⟨rn, hrn⟩ := nat_at hq.2.2.1
  obtain ⟨i1, i2⟩ := RopeOk.ix hq
  have fN : q0.f.toNat = fn := by omega
  have rN : q0.r.toNat = rn := by omega
  rw [fN] at i1
  rw [rN] at i2
  have hne : fn ≠ rn := fun z => hq.2.2.2.2.1 (by omega)
  rw [hfn, hrn] at hc
  have hxl := hw.len
  have hgf := h291 fn i1
  have hgdf : gd xs fn = xs.getD fn 0 := rfl
  obtain ⟨ms, hms⟩ : ∃ ms, moveD (chainTab n rs) xs fn (gd xs fn + 9) = ms := ⟨_, rfl⟩
  have msl : ms.length = n := by rw [← hms, moveD_len, hxl]
  have msv : Valid ms rs := by rw [← hms]; exact move_valid F hxl hw.valid i1 _
  have msr : InRange ms := fun x hx => by
    obtain ⟨i, hi, rfl⟩ := List.getElem_of_mem hx
    have hin : i < n := by omega
    have e : ms[i] = gd ms i := by
      unfold gd
      rw [List.getD_eq_getElem?_getD, List.getElem?_eq_getElem hi]
      rfl
    have elo : -9999 ≤ gd xs i := by
      have hm := hw.range _ (List.getElem_mem (l := xs) (by omega : i < xs.length))
      have e3 : xs[i]'(by omega) = gd xs i := by
        unfold gd
        rw [List.getD_eq_getElem?_getD, List.getElem?_eq_getElem (by omega)]
        rfl
      rw [e3] at hm
      exact hm.1
    have h1 : gd xs i ≤ gd ms i := by rw [← hms]; exact move_ge _ _ _ _ (by omega)
    have hP := fun j => hpl.lo j
    have h2 : gd ms i ≤ pl i + 300 := by
      rw [← hms]
      refine move_least (n := n) hxl (y := fun i => pl i + 300) (hpl.up 300) (fun j hj => ?_) ?_ i hin
      · have := h291 j hj
        have := hP j
        show gd xs j ≤ pl j + 300
        omega
      · have := hP fn
        show gd xs fn + 9 ≤ pl fn + 300
        omega
    have h3 := hpl.hi i
    rw [e]
    omega
  have tail : ∀ (tv : V) (p2 : Addr) (R : V → Hp → Prop) (H6 : Hp), RowAt K H6 a sc ns → But a H H6 → (∀ t H', RowAt K H' a sc ns → But a H H' → SqT K H' t [.int fn, .int rn, .int (topI (gd xs fn - gd xs rn) (gd ms fn - gd ms rn))] → R (.ref t) H') →
      rIxT K u (V.int fn) H6 fun x H1 => rI0 (fun i j => V.int (i + j)) x (V.int 9) H1 fun x H1 => sp_haul K [V.ref fa, u, V.int fn, x] H1 (fun x H1 => 2 ≤ sizeLine ∧ ∀ (p : Addr), H1 p = none → 2 ≤ sizeLine ∧ ∀ (p_1 : Addr), upd H1 p (HO.lst [u, x]) p_1 = none → 1 ≤ sizeLine ∧ ∀ (p_2 : Addr), upd (upd H1 p (HO.lst [u, x])) p_1 (HO.tup [V.int fn, V.int rn]) p_2 = none →
        sp_shortest_ropes K [V.int n, V.ref p_2, V.ref p] (upd (upd (upd H1 p (HO.lst [u, x])) p_1 (HO.tup [V.int fn, V.int rn])) p_2 (HO.lst [V.ref p_1])) (fun x_1 H1 => rIxL K x_1 (V.int 0) H1 fun x_1 H1 => (∃ xs, SqL K H1 p xs) ∧ ∀ (p_3 : Addr), H1 p_3 = none →
          LcW (Itl K p) (gName 13) tYes (tOp (rI0 fun i j => V.int (i - j)) (tOp (rIxT K) (tVar 13) (tVar 6)) (tOp (rIxT K) (tVar 13) (tVar 7))) [13] p_3 [some (V.ref a), some (V.ref fa), some u, some (V.ref c), some (V.int n), some (V.ref fb), some (V.int fn), some (V.int rn), some (V.int q0.l), some tv, some (V.ref p2), some (V.ref p), some x_1, none] H1 fun H1 =>
            rMax K [V.ref p_3] H1 fun x_2 H1 => 3 ≤ sizeLine ∧ ∀ (p : Addr), H1 p = none → rNeD K x_1 (V.ref p) (upd H1 p (HO.tup [V.int fn, V.int rn, x_2])) fun x_3 H' => ∃ k, x_3 = V.bl k ∧ if k = true then Q (V.bl false) H' else R x_1 H') E0) E0 := by
    intro tv p2 R H6 row6 b6 hR
    obtain ⟨_, k0⟩ := row.lst
    have hu := hu.but b6 k0
    have hv := hv.but b6 k0
    obtain ⟨cu, rfl, hcu⟩ := id hu
    refine ⟨cu, _, fn, _, rfl, rfl, hcu, atI_nat (at_ints (by omega)), _, _, rfl, rfl, ?_⟩
    refine ⟨.ref fa, .ref cu, n, rs, xs, fn, _, rfl, hv, hu, hw, i1, by omega, by omega, fun H7 rr s7 hrr => ?_⟩
    have hrr : IntsT K H7 rr ms := by
      rw [← hms]
      exact hrr
    refine ⟨by show 2 ≤ sizeLine; omega, fun pA hpA => ⟨by show 2 ≤ sizeLine; omega, fun pB hpB => ⟨by show 1 ≤ sizeLine; omega, fun pC hpC => ?_⟩⟩⟩
    have sA := same_upd (o := .lst [V.ref cu, rr]) hpA
    have sB := same_upd (o := .tup [V.int fn, V.int rn]) hpB
    have sC := same_upd (o := .lst [V.ref pB]) hpC
    have hA : (upd (upd (upd H7 pA (.lst [V.ref cu, rr])) pB (.tup [V.int fn, V.int rn])) pC (.lst [V.ref pB])) pA = some (.lst [V.ref cu, rr]) := sC _ _ (sB _ _ upd_same)
    have hB : (upd (upd (upd H7 pA (.lst [V.ref cu, rr])) pB (.tup [V.int fn, V.int rn])) pC (.lst [V.ref pB])) pB = some (.tup [V.int fn, V.int rn]) := sC _ _ upd_same
    have hC : (upd (upd (upd H7 pA (.lst [V.ref cu, rr])) pB (.tup [V.int fn, V.int rn])) pC (.lst [V.ref pB])) pC = some (.lst [V.ref pB]) := upd_same
    have e8 := (sA.trans sB).trans sC
    generalize upd (upd (upd H7 pA (.lst [V.ref cu, rr])) pB (.tup [V.int fn, V.int rn])) pC (.lst [V.ref pB]) = H8 at hA hB hC e8 ⊢
    have e9 := s7.trans e8
    have tw : TwoA K H8 pA (.ref cu) rr xs ms := ⟨hA, hu.mono e9, hrr.mono e8⟩
    refine ⟨pC, pA, pB, .ref cu, rr, xs, ms, n, fn, rn, rfl, n1, by omega, hC, .of hB, i1, i2, hne, tw, hxl, msl, hw.range, msr, fun H9 l t s9 hl ht => ?_⟩
    have tw := tw.mono s9
    refine ⟨l, _, 0, _, rfl, rfl, .of hl, atI_nat (j := 0) rfl, ⟨_, .of tw.top⟩, fun D hD => ?_⟩
    refine lcList (xs := [V.ref cu, rr]) (fun i H' => Same H9 H' ∧ H' D = some (.lst (([gd xs fn - gd xs rn, gd ms fn - gd ms rn].take i).map V.int))) ⟨same_upd hD, upd_same⟩ (fun i H' _ hPv => .of (hPv.1 _ _ tw.top)) (fun i x H' hx hPv => ?_) (fun H' hPv => ?_)
    · obtain ⟨e, hL⟩ := hPv
      have tw := tw.mono e
      walk_at "rd"
      have fin : ∀ (i : Nat) (y : Int) (H' : Hp), Same H9 H' → H' D = some (.lst (([gd xs fn - gd xs rn, gd ms fn - gd ms rn].take i).map V.int)) → [gd xs fn - gd xs rn, gd ms fn - gd ms rn][i]? = some y → ∃ acc, H' D = some (.lst acc) ∧ acc.length < sizeLine ∧ Same H9 (upd H' D (.lst (acc ++ [V.int y]))) ∧ (upd H' D (.lst (acc ++ [V.int y]))) D = some (.lst (([gd xs fn - gd xs rn, gd ms fn - gd ms rn].take (i + 1)).map V.int)) := by
        intro i y H' e hL hy
        refine ⟨_, hL, by rw [List.length_map, List.length_take]; show min i 2 < sizeLine; omega, fun z o hz' => ?_, ?_⟩
        · rw [upd_ne (ne_of_none hz' hD)]
          exact e z o hz'
        · rw [upd_same, List.take_add_one, hy, List.map_append]
          rfl
      rcases tw.at hx with ⟨rfl, rfl⟩ | ⟨rfl, rfl⟩
      · obtain ⟨c1, ec1, hc1⟩ := id tw.i1
        cases ec1
        refine ⟨cu, _, fn, _, rfl, rfl, hc1, atI_nat (at_ints (by omega)), cu, _, rn, _, rfl, rfl, hc1, atI_nat (at_ints (by omega)), ?_⟩
        walk_at "rd"
        exact fin 0 _ _ e hL rfl
      · obtain ⟨c1, rfl, hc1⟩ := id tw.i2
        refine ⟨c1, _, fn, _, rfl, rfl, hc1, atI_nat (at_ints (by omega)), c1, _, rn, _, rfl, rfl, hc1, atI_nat (at_ints (by omega)), ?_⟩
        walk_at "rd"
        exact fin 1 _ _ e hL rfl
    · obtain ⟨e, hL⟩ := hPv
      refine ⟨D, _, rfl, .of hL, by show 0 < 2; omega, fun m hm hle => ?_⟩
      rw [top_of hm hle]
      refine ⟨by show 3 ≤ sizeLine; omega, fun pE hpE => ?_⟩
      have sE := same_upd (o := .tup [V.int fn, V.int rn, V.int (topI (gd xs fn - gd xs rn) (gd ms fn - gd ms rn))]) hpE
      have htE := sqt_same (e.trans sE) ht
      refine ne_same (d := .tuple (([(fn : Int), (rn : Int), topI (gd xs fn - gd xs rn) (gd ms fn - gd ms rn)].map some).map ovP)) (dp_ints_t (xs := [(fn : Int), (rn : Int), topI (gd xs fn - gd xs rn) (gd ms fn - gd ms rn)]) htE) (dp_ints_t (xs := [(fn : Int), (rn : Int), topI (gd xs fn - gd xs rn) (gd ms fn - gd ms rn)]) (.of upd_same)) (shaped_opts_t _) ⟨false, rfl, ?_⟩
      simp only [Bool.false_eq_true, ite_false]
      have e10 := ((e9.trans s9).trans e).trans sE
      exact hR _ _ (row6.mono e10) (b6.trans (same_but e10)) htE
  walk_at "rd"
  refine ⟨_, ha, rfl, ?_⟩
  walk_at "rd"
  refine ⟨_, hc, rfl, ?_⟩
  walk_at "rd"
  have fin1 : impD (chainTab n rs) q0 = true → ∀ t H', RowAt K H' a sc ns → But a H H' → SqT K H' t [.int fn, .int rn, .int (topI (gd xs fn - gd xs rn) (gd ms fn - gd ms rn))] → rIxT K (.ref t) (V.int 2) H' fun x H1 => rI0 (fun i j => V.bl (decide (i ≤ j))) x (V.int q0.l) H1 Q := fun hi t H' row' b' ht => by
    refine ⟨t, _, 2, _, rfl, rfl, ht, atI_nat (j := 2) rfl, _, _, rfl, rfl, ?_⟩
    have g1 : gd xs fn - gd xs rn ≤ q0.l := by
      have := holds_imp (n := n) (y := gd xs) (fun r hr => hw.valid r hr) hi
      unfold HoldsR at this
      rw [fN, rN] at this
      exact this
    have g2 : gd ms fn - gd ms rn ≤ q0.l := by
      have := holds_imp (n := n) (y := gd ms) (fun r hr => msv r hr) hi
      unfold HoldsR at this
      rw [fN, rN] at this
      exact this
    have g3 : topI (gd xs fn - gd xs rn) (gd ms fn - gd ms rn) ≤ q0.l := by
      unfold topI
      split <;> omega
    dsimp only
    rw [decide_eq_true g3]
    exact q _ row' b'
  refine ⟨.ref fa, .ref c, n, rs, q0, rfl, hv, hok, hqv, hq, D1, fun hi H1 s1 => ?_, fun hi H1 ac s1 hac => ?_⟩
  · -- implied
    refine ⟨fa, _, 0, _, rfl, rfl, sqt_same s1 ha, atI_nat (j := 0) rfl, fa, _, 1, _, rfl, rfl, sqt_same s1 ha, atI_nat (j := 1) rfl, ?_⟩
    refine sl_to (j := 39) (sqt_same s1 hb) fun m1 H2 s2 h1 => ?_
    refine ⟨by show 1 ≤ sizeLine; omega, fun p1 hp1 => ?_⟩
    have s3 := same_upd (o := .tup [V.ref c]) hp1
    have hx1 := hx.1
    refine cat_two (sqt_same s3 h1) (.of upd_same) (by rw [List.length_take]; show min 39 ys.length + 1 ≤ sizeLine; omega) fun m2 H4 s4 h4 => ?_
    refine ⟨by show 2 ≤ sizeLine; omega, fun p2 hp2 => ⟨_, _, ⟨rfl, rfl⟩, ?_⟩⟩
    have s5 := same_upd (o := .tup [V.int n, V.ref m2]) hp2
    have eA := ((s2.trans s3).trans s4).trans s5
    have e := s1.trans eA
    have hmore : FleetV K (upd H4 p2 (.tup [V.int n, V.ref m2])) (.ref p2) n (rs.take 39 ++ [q0]) := FleetV.mkx (.of upd_same) (sqt_same s5 h4) (((hx.take 39).snoc hqv).same e)
    generalize upd H4 p2 (.tup [V.int n, V.ref m2]) = H5 at eA e hmore ⊢
    refine ⟨.ref fa, .ref c, n, rs, q0, rfl, hv.mono e, hok, hqv.mono e, hq, D1, fun H6 s6 => ?_⟩
    have hmore := hmore.mono s6
    have e := e.trans s6
    have eA := eA.trans s6
    rw [hi]
    refine ⟨rfl, ?_⟩
    simp only [decide_true, Bool.not_true, Bool.false_eq_true, ite_false]
    refine ⟨_, .inr (sqt_same e hb), ?_⟩
    have hx1 := hx.1
    by_cases hl40 : (ys.length : Int) < 40
    · rw [decide_eq_true hl40]
      simp only [ite_true]
      have htk : rs.take 39 = rs := List.take_of_length_le (by omega)
      rw [htk] at hmore
      have hok2 : FleetOk n (rs ++ [q0]) := ⟨hok.1, hok.2.1, by rw [List.length_append]; show rs.length + 1 ≤ 40; omega, fun r hr => by
        rcases List.mem_append.mp hr with z | z
        · exact hok.2.2.2 r z
        · rw [List.mem_singleton.mp z]
          exact hq⟩
      have htab : chainTab n rs = chainTab n (rs ++ [q0]) := by
        refine same_tab D1 (diag_of_pot (y := pl) fun r hr => ?_) hok.inn hok2.inn (fun r hr => ?_) (fun r hr => imp_mem (List.mem_append_left _ hr))
        · rcases List.mem_append.mp hr with z | z
          · exact hpl.holds r z
          · rw [List.mem_singleton.mp z]
            exact holds_imp hpl.holds hi
        · rcases List.mem_append.mp hr with z | z
          · exact imp_mem z
          · rw [List.mem_singleton.mp z]
            exact hi
      refine ⟨a, sc, ns, .ref fa, .ref p2, u, n, rs, rs ++ [q0], pl, xs, rfl, row.mono e, hv.mono e, hmore, hok, hok2, n5, htab, hpl, hu.mono e, hw, h291, fun H7 row7 b7 => ?_⟩
      refine ⟨true, rfl, ?_⟩
      simp only [Bool.not_true, Bool.false_eq_true, ite_false]
      refine tail _ _ _ H7 row7 ((same_but e).trans b7) fun t H' row' b' ht => fin1 hi t H' row' b' ht
    · rw [decide_eq_false hl40]
      simp only [Bool.false_eq_true, ite_false]
      refine tail _ _ _ H6 (row.mono e) (same_but e) fun t H' row' b' ht => fin1 hi t H' row' b' ht
  · -- not implied
    refine ⟨fa, _, 0, _, rfl, rfl, sqt_same s1 ha, atI_nat (j := 0) rfl, fa, _, 1, _, rfl, rfl, sqt_same s1 ha, atI_nat (j := 1) rfl, ?_⟩
    refine sl_to (j := 39) (sqt_same s1 hb) fun m1 H2 s2 h1 => ?_
    refine ⟨by show 1 ≤ sizeLine; omega, fun p1 hp1 => ?_⟩
    have s3 := same_upd (o := .tup [V.ref c]) hp1
    have hx1 := hx.1
    refine cat_two (sqt_same s3 h1) (.of upd_same) (by rw [List.length_take]; show min 39 ys.length + 1 ≤ sizeLine; omega) fun m2 H4 s4 h4 => ?_
    refine ⟨by show 2 ≤ sizeLine; omega, fun p2 hp2 => ⟨_, _, ⟨rfl, rfl⟩, ?_⟩⟩
    have s5 := same_upd (o := .tup [V.int n, V.ref m2]) hp2
    have eA := ((s2.trans s3).trans s4).trans s5
    have e := s1.trans eA
    have hmore : FleetV K (upd H4 p2 (.tup [V.int n, V.ref m2])) (.ref p2) n (rs.take 39 ++ [q0]) := FleetV.mkx (.of upd_same) (sqt_same s5 h4) (((hx.take 39).snoc hqv).same e)
    generalize upd H4 p2 (.tup [V.int n, V.ref m2]) = H5 at eA e hmore ⊢
    refine ⟨.ref fa, .ref c, n, rs, q0, rfl, hv.mono e, hok, hqv.mono e, hq, D1, fun H6 s6 => ?_⟩
    have hmore := hmore.mono s6
    have e := e.trans s6
    have eA := eA.trans s6
    rw [hi]
    obtain ⟨c1, c2, c3, c4⟩ := ctr_spec F hq hi hpl.holds fun i => ⟨hpl.lo i, hpl.hi i⟩
    refine ⟨rfl, ?_⟩
    have hdn : decide (V.ref ac = V.non) = false := decide_eq_false fun z => by cases z
    simp only [hdn, decide_true, Bool.not_true, Bool.not_false, Bool.false_eq_true, ite_false, ite_true]
    have hac := hac.mono eA
    have cr : InRange (ctrD (chainTab n rs) n q0) := fun x hx => by
      obtain ⟨i, hi', rfl⟩ := List.getElem_of_mem hx
      have := c3 i (by omega)
      unfold gd at this
      rw [List.getD_eq_getElem?_getD, List.getElem?_eq_getElem hi'] at this
      have h9 : (some (ctrD (chainTab n rs) n q0)[i]).getD 0 = (ctrD (chainTab n rs) n q0)[i] := rfl
      rw [h9] at this
      omega
    rw [fN, rN] at c4
    generalize ctrD (chainTab n rs) n q0 = cs at c1 c2 c3 c4 cr hac
    refine ⟨.ref fa, .ref ac, n, rs, cs, rfl, hv.mono e, hok, hac, c2, cr, c1, fun H7 pb s7 hpb => ?_⟩
    refine ⟨Nat.zero_le _, fun pz hpz => ?_⟩
    have sz := same_upd (o := .lst []) hpz
    have e := (e.trans s7).trans sz
    have hac := (hac.mono s7).mono sz
    refine ne_same (d := .list []) (.lst (.of (sz _ _ hpb)) .nil) (.lst (.of upd_same) .nil) rfl ⟨false, rfl, ?_⟩
    simp only [Bool.false_eq_true, ite_false]
    generalize upd H7 pz (.lst []) = H8 at e hac ⊢
    obtain ⟨ac', eac, hcc⟩ := id hac
    cases eac
    refine ⟨ac, _, fn, _, rfl, rfl, hcc, atI_nat (at_ints (by omega)), ac, _, rn, _, rfl, rfl, hcc, atI_nat (at_ints (by omega)), _, _, rfl, rfl, _, _, rfl, rfl, ?_⟩
    refine ⟨_, rfl, ?_⟩
    have c4 : q0.l < cs.getD fn 0 - cs.getD rn 0 := c4
    rw [decide_eq_false (show ¬ cs.getD fn 0 - cs.getD rn 0 ≤ q0.l by omega)]
    simp only [Bool.false_eq_true, ite_false]
    refine ⟨by show 1 ≤ sizeLine; omega, fun pD hpD => ?_⟩
    have sD := same_upd (o := .tup [V.ref c]) hpD
    have e := e.trans sD
    have hD1 : SqT K (upd H8 pD (.tup [V.ref c])) pD [V.ref c] := .of upd_same
    generalize upd H8 pD (.tup [V.ref c]) = H9 at e hD1 ⊢
    refine sl_to (j := 39) (sqt_same e hb) fun m6 H10 s10 h6 => ?_
    refine cat_two (sqt_same s10 hD1) h6 (by rw [List.length_take]; show 1 + min 39 ys.length ≤ sizeLine; omega) fun m7 H11 s11 h7 => ?_
    refine ⟨by show 2 ≤ sizeLine; omega, fun pF hpF => ?_⟩
    have sF := same_upd (o := .tup [V.int n, V.ref m7]) hpF
    have e := ((e.trans s10).trans s11).trans sF
    have hx0 : RopesX K H [V.ref c] [q0] := by
      have := RopesX.snoc (K := K) (H := H) (xs := []) (rs := []) ⟨rfl, fun i r h => by cases h⟩ hqv
      exact this
    have hfl2 : FleetV K (upd H11 pF (.tup [V.int n, V.ref m7])) (.ref pF) n ([q0] ++ rs.take 39) := FleetV.mkx (.of upd_same) (sqt_same sF h7) ((hx0.app (hx.take 39)).same e)
    have hok3 : FleetOk n ([q0] ++ rs.take 39) := ⟨hok.1, hok.2.1, by rw [List.length_append, List.length_take]; show 1 + min 39 rs.length ≤ 40; omega, fun r hr => by
      rcases List.mem_append.mp hr with z | z
      · rw [List.mem_singleton.mp z]
        exact hq
      · exact hok.2.2.2 r (List.mem_of_mem_take z)⟩
    refine ⟨.ref fa, .ref pF, n, rs, _, rfl, hv.mono e, hok, hfl2, hok3, D1, fun hall => ?_, fun i r hr' hf hbef H12 s12 => ?_⟩
    · have := hall q0 (List.mem_append_left _ (List.mem_singleton.mpr rfl))
      rw [hi] at this
      cases this
    · have hi0 : i = 0 := by
        cases i with
        | zero => rfl
        | succ i =>
          have := hbef 0 q0 (Nat.succ_pos i) rfl
          rw [hi] at this
          cases this
      subst hi0
      have e := e.trans s12
      refine ⟨rfl, ?_⟩
      have hz0 : decide (V.int ((0 : Nat) : Int) = V.int 0) = true := decide_eq_true rfl
      simp only [hz0, Bool.not_true, Bool.false_eq_true, ite_false]
      refine tail _ _ _ H12 (row.mono e) (same_but e) fun t H' row' b' ht => ?_
      exact q _ row' b'
end
end Hx

set_option Elab.async false
set_option linter.all false
set_option maxRecDepth 100000
set_option maxHeartbeats 4000000
/-! Lists of lists of ints and None, as data. -/
namespace Hx
open PySem PySem.Spec PyProof.Rows L2
def rowP (es : List (Option Int)) : PyData := .list (es.map ovP)
theorem lay_rows : ∀ rows : List (List (Option Int)), PyData.canLayAll0 (rows.map rowP) = true
  | [] => rfl
  | es :: r => by
    rw [List.map_cons, PyData.canLayAll0, lay_rows r]
    unfold rowP
    rw [PyData.canLay0, lay_opts]
    rfl
theorem depth_rows : ∀ rows : List (List (Option Int)), PyData.depthAll (rows.map rowP) ≤ 1
  | [] => Nat.zero_le _
  | es :: r => by
    have e := depth_rows r
    have f := depth_opts es
    simp only [List.map_cons, PyData.depthAll, rowP, PyData.depth, f]
    omega
theorem shaped_rows (rows : List (List (Option Int))) : SeqAt.shaped (.list (rows.map rowP)) = true := by
  have h := depth_rows rows
  unfold SeqAt.shaped
  rw [PyData.canLay0, lay_rows, PyData.depth]
  simp
  omega
end Hx

set_option Elab.async false
set_option linter.all false
set_option maxRecDepth 100000
set_option maxHeartbeats 4000000
namespace Hx
open PySem PySem.Spec PyProof.Rows L2
local macro_rules | `(tactic| walk_at "rd") => `(tactic| (try simp only [q_var, q_c, q_op, q_un, q_rI, q_rI0, q_rU, q_rEq, q_rNe, q_test, q_tB, q_and, q_or, q_not, q_andV, q_orV, q_notV, q_if, q_isN, q_notN, q_chain, q_next, q_seq, q_break, q_cont, q_drop, q_ret, q_retN, q_ifS, q_never, q_gN, q_gNil, q_gCons, q_gTup, q_gSub, q_asg, q_par, q_aug, q_nil, q_cons, q_tup, q_lst, q_call, q_cb, q_noPart, q_part, q_sl, q_bm0, q_bm, q_yes, q_for, q_lc, q_iList, q_iTup, q_iRng1, q_iEnumT, q_iEnum, q_iRng2, q_iZipA, q_iZipM, q_ipI, q_ckw, q_len, q_listOf, q_tupleOf, L2.start, cx_K, wipe, List.map_cons, List.map_nil, List.length_cons, List.length_nil, List.cons_append, List.nil_append, List.append_nil, List.replicate, List.getElem?_cons_zero, List.getElem?_cons_succ, List.set_cons_zero, List.set_cons_succ, Option.some.injEq, List.cons.injEq, exists_eq_left', exists_eq_left, exists_and_left, V.int.injEq, V.bl.injEq, V.ref.injEq, if_true, if_false, Bool.not_true, Bool.not_false, true_and, and_true, Bool.false_eq_true, ite_true, ite_false, Nat.reduceAdd, Nat.reduceSub, reduceCtorEq, decide_false, decide_true, Int.toNat_natCast, false_and, exists_false, or_false, false_or]))
theorem eqv_nil (xs : List PyData) : PyData.eqv (.list xs) (.list []) = xs.isEmpty := by
  rw [PyData.eqv]
  cases xs with
  | nil => rw [PyData.eqvAll]; rfl
  | cons x xs => rw [PyData.eqvAll]; rfl; all_goals (intro h; cases h)
/-! data -/
def ropeP (r : Rope) : PyData := .tuple (([r.f, r.r, r.l].map some).map ovP)
theorem lay_ropes : ∀ rs : List Rope, PyData.canLayAll0 (rs.map ropeP) = true
  | [] => rfl
  | r :: rs => by
    rw [List.map_cons, PyData.canLayAll0, lay_ropes rs]
    rfl
theorem depth_ropes : ∀ rs : List Rope, PyData.depthAll (rs.map ropeP) ≤ 1
  | [] => Nat.zero_le _
  | r :: rs => by
    have e := depth_ropes rs
    have f : PyData.depth (ropeP r) ≤ 1 := by
      unfold ropeP
      rw [PyData.depth, depth_opts]
      omega
    rw [List.map_cons, PyData.depthAll]
    omega
theorem shaped_ropes (rs : List Rope) : SeqAt.shaped (.list (rs.map ropeP)) = true := by
  have h := depth_ropes rs
  unfold SeqAt.shaped
  rw [PyData.canLay0, lay_ropes, PyData.depth]
  simp
  omega
def natO (k : List Nat) : List (Option Int) := k.map fun (i : Nat) => some (i : Int)
theorem natO_V (k : List Nat) : natV k = (natO k).map ovV := by
  unfold natV natO
  rw [List.map_map]
  rfl
section
variable {K : PySem.W.Frag} {H : Hp}
theorem dp_rowV : ∀ es : List (Option Int), DpAll K H (es.map ovV) (es.map ovP)
  | [] => .nil
  | none :: r => .cons .non (dp_rowV r)
  | some i :: r => .cons (.int i) (dp_rowV r)
theorem dp_nats {l : Addr} {k : List Nat} (h : H l = some (.lst (natV k))) : Dp K H (.ref l) (rowP (natO k)) := by
  rw [natO_V] at h
  exact .lst (.of h) (dp_rowV _)
theorem shaped_nats (k : List Nat) : SeqAt.shaped (rowP (natO k)) = true := shaped_opts_l _
theorem dp_ropes : ∀ {xs : List V} {rs : List Rope}, RopesX K H xs rs → DpAll K H xs (rs.map ropeP) := by
  intro xs
  induction xs with
  | nil =>
    intro rs h
    cases rs with
    | nil => exact .nil
    | cons r rs => cases h.1
  | cons x xs ih =>
    intro rs h
    cases rs with
    | nil => cases h.1
    | cons r rs =>
      refine .cons ?_ (ih ⟨Nat.succ.inj h.1, fun i q hq => ?_⟩)
      · obtain ⟨v, hv, c, rfl, hc⟩ := h.2 0 r rfl
        cases hv
        exact dp_ints_t (xs := [r.f, r.r, r.l]) hc
      · obtain ⟨v, hv, k⟩ := h.2 (i + 1) q hq
        exact ⟨v, hv, k⟩
end
theorem shaped_ropes_t (rs : List Rope) : SeqAt.shaped (.tuple (rs.map ropeP)) = true := by
  have h := depth_ropes rs
  unfold SeqAt.shaped
  rw [PyData.canLay0, lay_ropes, PyData.depth]
  simp
  omega
theorem shaped_rope (r : Rope) : SeqAt.shaped (ropeP r) = true := shaped_opts_t _
end Hx

set_option Elab.async false
set_option linter.all false
set_option maxRecDepth 100000
set_option maxHeartbeats 4000000
namespace Hx
open PySem PySem.Spec PyProof.Rows L2
local macro_rules | `(tactic| walk_at "rd") => `(tactic| (try simp only [q_var, q_c, q_op, q_un, q_rI, q_rI0, q_rU, q_rEq, q_rNe, q_test, q_tB, q_and, q_or, q_not, q_andV, q_orV, q_notV, q_if, q_isN, q_notN, q_chain, q_next, q_seq, q_break, q_cont, q_drop, q_ret, q_retN, q_ifS, q_never, q_gN, q_gNil, q_gCons, q_gTup, q_gSub, q_asg, q_par, q_aug, q_nil, q_cons, q_tup, q_lst, q_call, q_cb, q_noPart, q_part, q_sl, q_bm0, q_bm, q_yes, q_for, q_lc, q_iList, q_iTup, q_iRng1, q_iEnumT, q_iEnum, q_iRng2, q_iZipA, q_iZipM, q_ipI, q_ckw, q_len, q_listOf, q_tupleOf, L2.start, cx_K, wipe, List.map_cons, List.map_nil, List.length_cons, List.length_nil, List.cons_append, List.nil_append, List.append_nil, List.replicate, List.getElem?_cons_zero, List.getElem?_cons_succ, List.set_cons_zero, List.set_cons_succ, Option.some.injEq, List.cons.injEq, exists_eq_left', exists_eq_left, exists_and_left, V.int.injEq, V.bl.injEq, V.ref.injEq, if_true, if_false, Bool.not_true, Bool.not_false, true_and, and_true, Bool.false_eq_true, ite_true, ite_false, Nat.reduceAdd, Nat.reduceSub, reduceCtorEq, decide_false, decide_true, Int.toNat_natCast, false_and, exists_false, or_false, false_or]))
section
variable {P : Program} {w : World} {K : PySem.W.Frag} {mg : Str → Option Value} {base : Heap}
def s_law : Stmt := topS 63
abbrev n_law : List Str := ["_law_script", "_law_row", "_law_turn", "_law_fleet_here", "_law_count", "_law_ropes", "_law_start_here", "_law_small", "_law_rope", "_law_due", "_law_k", "_law_front", "_law_rear"]
abbrev p_law : List Str := ["_law_script"]
theorem sc_law : FnScope n_law p_law (defScope s_law) := ⟨rfl, rfl, rfl, by decide +kernel, rfl, by decide +kernel, by decide +kernel⟩
def sp_law (K : PySem.W.Frag) : Sp := fun vs H Q _ => ∃ (sc : Addr) (ns : List Int), vs = [.ref sc] ∧ SqL K H sc (ns.map V.int) ∧ ns.length ≤ 1000 ∧ ∀ H', Q (.bl true) H'
theorem ok_law {fa : Addr} {fd : FuncData} (T : Fun K "law" "law" s_law fa fd) (B : Blt mg) (D_law_taken : Df P w K mg base CX0 "_law_taken" 1 p_law_taken (sp_law_taken K)) (D_law_fleet : Df P w K mg base CX0 "_law_fleet" 2 p_law_fleet (sp_law_fleet K))
    (D_law_start : Df P w K mg base CX0 "_law_start" 3 p_law_start (sp_law_start K)) (D_reduce_ropes : Df P w K mg base CX0 "reduce_ropes" 5 p_reduce_ropes (sp_reduce_ropes K)) (D_redundant_ropes : Df P w K mg base CX0 "redundant_ropes" 5 p_redundant_ropes (sp_redundant_ropes K))
    (D_missing_rope : Df P w K mg base CX0 "missing_rope" 5 p_missing_rope (sp_missing_rope K)) (D_law_are_alike : Df P w K mg base CX0 "_law_are_alike" 8 p_law_are_alike (sp_law_are_alike K)) (D_implied : Df P w K mg base CX0 "implied" 5 p_implied (sp_implied K))
    (D_law_is_rope : Df P w K mg base CX0 "_law_is_rope" 9 p_law_is_rope (sp_law_is_rope K)) :
    FnOk P w K mg base CX0 10 fa fd p_law (sp_law K) := by
  refine T.ok sc_law (fun vs H Q E h => by obtain ⟨_, _, rfl, _⟩ := h; rfl) (fun cdv A outer s H vs Q E hr h => ?_)
  obtain ⟨sc, ns, rfl, hsc, hns, q⟩ := h
  refine ⟨_, pss_cons (ps_set (i := 1) sc_law.nd rfl (by first | exact Or.inl rfl | exact Or.inr rfl) (pe_lst (pa_cons (pv 0) (pa_cons (pe_int) (pa_cons (pe_int) (pa_cons (pe_int) pa_nil))))))
      (pss_cons (ps_for PassesOwn.never rfl (pi_range1 (by rfl) B.range (pa_cons (pe_int) pa_nil)) (pg_name (i := 2) sc_law.nd rfl (by first | exact Or.inl rfl | exact Or.inr rfl)) (pss_cons (ps_set (i := 3) sc_law.nd rfl (by first | exact Or.inl rfl | exact Or.inr rfl) (D_law_fleet.call (hr.mono (by decide)) (by rfl) (pa_cons (pv 1) (pa_cons (pe_int) pa_nil))))
      (pss_cons (ps_asg (pe_tup (pa_cons (pe_ix (ixT K rfl) (pv 3) (pe_int) (fun _ _ => rfl)) (pa_cons (pe_ix (ixT K rfl) (pv 3) (pe_int) (fun _ _ => rfl)) (pa_cons (D_law_start.call (hr.mono (by decide)) (by rfl) (pa_cons (pv 1) (pa_cons (pv 3) pa_nil))) pa_nil)))) (pgTup K rfl (n := 3) rfl (pgs_cons (pg_name (i := 4) sc_law.nd rfl (by first | exact Or.inl rfl | exact Or.inr rfl)) (pgs_cons (pg_name (i := 5) sc_law.nd rfl (by first | exact Or.inl rfl | exact Or.inr rfl)) (pgs_cons (pg_name (i := 6) sc_law.nd rfl (by first | exact Or.inl rfl | exact Or.inr rfl)) pgs_nil)))))
      (pss_cons (ps_set (i := 7) sc_law.nd rfl (by first | exact Or.inl rfl | exact Or.inr rfl) (D_reduce_ropes.call (hr.mono (by decide)) (by rfl) (pa_cons (pv 3) pa_nil)))
      (pss_cons (ps_if (PW.pt (pw_or (pt_cmpR (neD K rfl hr.units) (D_redundant_ropes.call (hr.mono (by decide)) (by rfl) (pa_cons (pv 7) pa_nil)) (pe_lst (pa_nil)) (nomark _)) (pw_or1 (pt_cmpR op_notN (D_missing_rope.call (hr.mono (by decide)) (by rfl) (pa_cons (pv 7) (pa_cons (pv 3) pa_nil))) (pe_non) (nomark _))))) (pss_one (ps_ret (pe_bl))) (pss_nil))
      (pss_cons (ps_if (pt_cmpR op_notN (D_missing_rope.call (hr.mono (by decide)) (by rfl) (pa_cons (pv 3) (pa_cons (pv 7) pa_nil))) (pe_non) (nomark _)) (pss_one (ps_ret (pe_bl))) (pss_nil))
      (pss_cons (ps_if (PW.pt (pw_or (pt_cmpR (neD K rfl hr.units) (pe_lc (own := [("_law_rope", 8)]) rfl sc_law.nd (piTup K rfl (pe_ix (ixT K rfl) (pv 7) (pe_int) (fun _ _ => rfl))) (blkOk_by (N := n_law) (sc := defScope s_law) (by decide +kernel)) (fun _ _ _ _ _ => pg_name (i := 8) sc_law.nd rfl (by first | exact Or.inl rfl | exact Or.inr rfl)) (fun _ _ _ _ _ => pts_one (pt_cmpR (notInT K rfl (units65 hr)) (pv 8) (pv 5) (by with_unfolding_all rfl))) (fun _ _ _ _ _ => pv 8)) (pe_lst (pa_nil)) (nomark _)) (pw_or1 (pt_not (pt_val (D_law_are_alike.call (hr.mono (by decide)) (by rfl) (pa_cons (pv 1) (pa_cons (pv 3) (pa_cons (pv 7) (pa_cons (pv 6) pa_nil)))))))))) (pss_one (ps_ret (pe_bl))) (pss_nil))
      (pss_cons (ps_setLc (i := 9) (own := [("_law_k", 10)]) rfl sc_law.nd rfl rfl (sw_true rfl rfl rfl (by decide +kernel)) (pi_range1 (by rfl) B.range (pa_cons (pe_callB (lenQ K rfl) (by rfl) B.len (by decide +kernel) (pa_cons (pv 5) pa_nil)) pa_nil)) (blkOk_by (N := n_law) (sc := defScope s_law) (by decide +kernel)) (fun _ _ _ _ _ => pg_name (i := 10) sc_law.nd rfl (by first | exact Or.inl rfl | exact Or.inr rfl)) (fun _ _ _ _ _ => pts_one (pt_val (D_implied.call (hr.mono (by decide)) (by rfl) (pa_cons (pe_tup (pa_cons (pv 4) (pa_cons (pe_op (catA K rfl) (pe_slice (slA K rfl) (pv 5) po_none (po_some (pv 10))) (pe_slice (slA K rfl) (pv 5) (po_some (pe_op op_add (pv 10) (pe_int))) po_none)) pa_nil))) (pa_cons (pe_ix (ixT K rfl) (pv 5) (pv 10) (fun _ _ => rfl)) pa_nil))))) (fun _ _ _ _ _ => pv 10))
      (pss_cons (ps_if (pt_cmpR (neD K rfl hr.units) (D_redundant_ropes.call (hr.mono (by decide)) (by rfl) (pa_cons (pv 3) pa_nil)) (pv 9) (nomark _)) (pss_one (ps_ret (pe_bl))) (pss_nil))
      (pss_cons (ps_par (i := 11) (j := 12) rfl sc_law.nd rfl rfl (by decide) rfl rfl (pa_cons (D_law_taken.call (hr.mono (by decide)) (by rfl) (pa_cons (pv 1) (pa_cons (pv 4) pa_nil))) (pa_cons (D_law_taken.call (hr.mono (by decide)) (by rfl) (pa_cons (pv 1) (pa_cons (pv 4) pa_nil))) pa_nil)) (by rfl))
      (pss_cons (ps_set (i := 8) sc_law.nd rfl (by first | exact Or.inl rfl | exact Or.inr rfl) (pe_tup (pa_cons (pv 11) (pa_cons (pv 12) (pa_cons (pe_op op_sub (D_law_taken.call (hr.mono (by decide)) (by rfl) (pa_cons (pv 1) (pa_cons (pe_int) pa_nil))) (pe_int)) pa_nil)))))
      (pss_one (ps_if (PW.pt (pw_and (pt_cmpR op_ne (pv 11) (pv 12) (nomark _)) (pw_and1 (pt_not (pt_val (D_law_is_rope.call (hr.mono (by decide)) (by rfl) (pa_cons (pv 1) (pa_cons (pv 3) (pa_cons (pv 6) (pa_cons (pv 8) pa_nil)))))))))) (pss_one (ps_ret (pe_bl))) (pss_nil))))))))))))))
      (pss_one (ps_ret (pe_bl)))), ?_⟩
  have hz : 100 ≤ sizeLine := by decide
  walk_at "rd"
  refine ⟨by omega, fun a ha => ⟨by omega, by omega, ?_⟩⟩
  have hrow : RowAt K (upd H a (.lst [.ref sc, .int 0, .int 0, .int 0])) a sc ns := by
    refine ⟨0, 0, 0, upd_same, (same_upd ha).seq hsc, ?_, by omega, by omega, by omega, by omega⟩
    rcases hsc with (h | ⟨o, h⟩) | h
    · exact .inl (ne_of_none h ha)
    · exact .inl (ne_of_none h ha)
    · exact .inr (.inr h)
  have e2 : (2 : Int).toNat = 2 := rfl
  rw [e2]
  obtain ⟨W1, eW1⟩ : ∃ W : Nat → L2.St → Hp → Prop, W = fun k σ H' => ∃ x2 x3 x4 x5 x6 x7 x8 x9 x10 x11 x12, σ = [some (.ref sc), some (.ref a), x2, x3, x4, x5, x6, x7, x8, x9, x10, x11, x12] ∧ RowAt K H' a sc ns := ⟨_, rfl⟩
  refine forRange W1 (by rw [eW1]; exact ⟨_, _, _, _, _, _, _, _, _, _, _, rfl, hrow⟩) (fun k σ H0 hk hPv => ?_) (fun σ H' hPv => ?_) <;> rw [eW1] at hPv
  · obtain ⟨x2, x3, x4, x5, x6, x7, x8, x9, x10, x11, x12, rfl, row0⟩ := hPv
    have fin : ∀ {σ' H'}, (∃ x2 x3 x4 x5 x6 x7 x8 x9 x10 x11 x12, σ' = [some (.ref sc), some (.ref a), x2, x3, x4, x5, x6, x7, x8, x9, x10, x11, x12]) → RowAt K H' a sc ns → W1 (k + 1) σ' H' := by
      rintro σ' H' ⟨x2, x3, x4, x5, x6, x7, x8, x9, x10, x11, x12, e⟩ r
      rw [eW1]
      exact ⟨_, _, _, _, _, _, _, _, _, _, _, e, r⟩
    walk_at "rd"
    refine ⟨a, sc, ns, 5, rfl, row0, by omega, by omega, fun H1 v n rs row1 b1 hv hok hn5 hkp => ?_⟩
    obtain ⟨pl, hpl0, hplh⟩ := hkp
    have hpl : Pl n rs pl := ⟨fun i => (hpl0 i).1, fun i => (hpl0 i).2, hplh⟩
    have n5 : n ≤ 5 := by omega
    have n1 : 1 ≤ n := by have := hok.1; omega
    have h40 := hok.2.2.1
    have D1 : Diag n (chainTab n rs) := diag_of_pot hpl.holds
    obtain ⟨va, vb, ys, rfl, ha, hb, hx⟩ := hv.x
    walk_at "rd"
    refine ⟨va, _, 0, _, rfl, rfl, ha, atI_nat (j := 0) rfl, va, _, 1, _, rfl, rfl, ha, atI_nat (j := 1) rfl, ?_⟩
    refine ⟨a, sc, ns, .ref va, n, rs, pl, rfl, row1, hv, hok, hpl, fun H2 u xs row2 b2 hu hxn hxv hxb => ?_⟩
    obtain ⟨_, k1⟩ := row1.lst
    have hv := hv.but b2 k1
    have ha := sqt_but b2 k1 ha
    have hb := sqt_but b2 k1 hb
    have hx := hx.but b2 k1
    have hw : WayOk n rs xs := by
      refine ⟨hok, hxn, fun x hx' => ?_, hxv⟩
      obtain ⟨i, hi, rfl⟩ := List.getElem_of_mem hx'
      have h1 := hxb i (by omega)
      have h2 := hpl.hi i
      have e : gd xs i = xs[i] := by
        unfold gd
        rw [List.getD_eq_getElem?_getD, List.getElem?_eq_getElem hi]
        rfl
      omega
    have h291 : ∀ i, i < n → gd xs i ≤ 291 := fun i hi => by
      have h1 := hxb i hi
      have h2 := hpl.hi i
      omega
    refine ⟨by show 3 ≤ sizeLine; omega, fun p0 hp0 => ⟨_, .of upd_same, rfl, ?_⟩⟩
    have s0 := same_upd (o := .tup [V.int n, V.ref vb, u]) hp0
    have row2 := row2.mono s0
    have hv := hv.mono s0
    have ha := sqt_same s0 ha
    have hb := sqt_same s0 hb
    have hx := hx.same s0
    have hu := hu.mono s0
    generalize upd H2 p0 (.tup [V.int n, V.ref vb, u]) = H3 at row2 hv ha hb hx hu ⊢
    walk_at "rd"
    obtain ⟨f1, f2, f3, f4⟩ := red_all hpl.holds hok.inn
    refine ⟨.ref va, n, rs, rfl, hv, hok, D1, fun H4 r s4 hr4 => ?_⟩
    obtain ⟨qs, hqs⟩ : ∃ qs, redR n rs.length rs = qs := ⟨_, rfl⟩
    rw [hqs] at f1 f2 f3 f4 hr4
    have hokq : FleetOk n qs := hok.sub f3 f2
    have Dq : Diag n (chainTab n qs) := by rw [f1]; exact D1
    walk_at "rd"
    refine ⟨r, n, qs, rfl, hr4, hokq, Dq, fun H5 l s5 hl => ?_⟩
    rw [f4] at hl
    refine ⟨Nat.zero_le _, fun pz hpz => ?_⟩
    have sz := same_upd (o := .lst []) hpz
    refine ne_same (d := .list []) (.lst (.of (sz _ _ hl)) .nil) (.lst (.of upd_same) .nil) rfl ⟨false, rfl, ?_⟩
    simp only [Bool.false_eq_true, ite_false]
    have e := (s4.trans s5).trans sz
    have hr := (hr4.mono s5).mono sz
    generalize upd H5 pz (.lst []) = H6 at e hr ⊢
    refine ⟨r, .ref va, n, qs, rs, rfl, hr, hokq, hv.mono e, hok, Dq, fun _ H7 s7 => ?_, fun i q hq hf _ _ _ => ?_⟩
    · have e := e.trans s7
      have hr := hr.mono s7
      simp only [decide_true, Bool.not_true, Bool.false_eq_true, ite_false, true_and]
      refine ⟨.ref va, r, n, rs, qs, rfl, hv.mono e, hok, hr, hokq, D1, fun _ H8 s8 => ?_, fun i q hq hf _ _ _ => ?_⟩
      · have e := e.trans s8
        have hr := hr.mono s8
        simp only [decide_true, Bool.not_true, Bool.false_eq_true, ite_false, true_and]
        obtain ⟨ra, rb, zs, rfl, hra, hrb, hrx⟩ := hr.x
        have hb8 := sqt_same e hb
        have hx8 := hx.same e
        refine ⟨ra, _, 1, _, rfl, rfl, hra, atI_nat (j := 1) rfl, rb, rfl, ⟨_, hrb⟩, fun D hD => ?_⟩
        refine lcTup (xs := zs) (fun i H' => Same H8 H' ∧ H' D = some (.lst [])) ⟨same_upd hD, upd_same⟩ (fun i H' _ hPv => sqt_same hPv.1 hrb) (fun i x H' hx' hPv => ?_) (fun H9 hPv => ?_)
        · obtain ⟨e9, hL⟩ := hPv
          have hi : i < qs.length := by
            rw [← hrx.1]
            exact (List.getElem?_eq_some_iff.mp hx').1
          have hqi : qs[i]? = some qs[i] := List.getElem?_eq_getElem hi
          obtain ⟨z, hz1, hzv⟩ := hrx.2 i qs[i] hqi
          cases hx'.symm.trans hz1
          have hmem := f2 _ (List.getElem_mem hi)
          generalize qs[i] = q0 at hzv hmem
          obtain ⟨cz, rfl, hcz⟩ := hzv.mono e9
          walk_at "rd"
          refine ⟨ropeP q0, rs.map ropeP, dp_ints_t (xs := [q0.f, q0.r, q0.l]) hcz, .tup (sqt_same e9 hb8) (dp_ropes (hx8.same e9)), shaped_rope _, shaped_ropes_t _, ?_⟩
          have hany : ((rs.map ropeP).any fun z => PyData.eqv z (ropeP q0)) = true := by
            rw [List.any_eq_true]
            exact ⟨ropeP q0, List.mem_map.mpr ⟨q0, hmem, rfl⟩, SeqAt.eqv_refl _ (SeqAt.canLay_of_shaped (shaped_rope q0))⟩
          rw [hany]
          refine ⟨false, rfl, ?_⟩
          simp only [Bool.false_eq_true, ite_false]
          exact ⟨e9, hL⟩
        · obtain ⟨e9, hL⟩ := hPv
          refine ⟨Nat.zero_le _, fun py hpy => ?_⟩
          have sy := same_upd (o := .lst []) hpy
          refine ne_same (d := .list []) (.lst (.of (sy _ _ hL)) .nil) (.lst (.of upd_same) .nil) rfl ⟨false, rfl, ?_⟩
          simp only [Bool.false_eq_true, ite_false]
          have e := (e.trans e9).trans sy
          have hr := (hr.mono e9).mono sy
          generalize upd H9 py (.lst []) = H10 at e hr ⊢
          refine ⟨a, sc, ns, .ref va, .ref ra, u, n, rs, qs, pl, xs, rfl, row2.mono e, hv.mono e, hr, hok, hokq, n5, f1.symm, hpl, hu.mono e, hw, h291, fun H11 row11 b11 => ?_⟩
          refine ⟨true, rfl, ?_⟩
          simp only [Bool.not_true, Bool.false_eq_true, ite_false]
          obtain ⟨_, k3⟩ := (row2.mono e).lst
          have hv := (hv.mono e).but b11 k3
          have hb := sqt_but b11 k3 (sqt_same e hb)
          have hx := (hx.same e).but b11 k3
          have hu := (hu.mono e).but b11 k3
          refine ⟨_, .inr hb, ?_⟩
          rw [hx.1]
          refine ⟨by omega, by omega, fun D2 hD2 => ?_⟩
          refine lcRange (fun i H' => Same H11 H' ∧ H' D2 = some (.lst (natV ((List.range i).filter (redB n rs))))) ⟨same_upd hD2, upd_same⟩ (fun i H' hi hPv => ?_) (fun H12 hPv => ?_)
          · obtain ⟨e12, hL2⟩ := hPv
            have hfl : ((List.range i).filter (redB n rs)).length ≤ i := Nat.le_trans (List.length_filter_le _ _) (by rw [List.length_range]; exact Nat.le_refl _)
            have hri : rs[i]? = some rs[i] := List.getElem?_eq_getElem hi
            have hx1 := hx.1
            rw [redL_succ]
            walk_at "rd"
            refine sl_to (sqt_same e12 hb) fun m1 H13 s13 h1 => ?_
            have ei : ((i : Int) + 1) = ((i + 1 : Nat) : Int) := by omega
            rw [ei]
            refine sl_from (sqt_same (e12.trans s13) hb) fun m2 H14 s14 h2 => ?_
            refine cat_two (sqt_same s14 h1) h2 (by rw [List.length_take, List.length_drop]; omega) fun m3 H15 s15 h3 => ?_
            refine ⟨by show 2 ≤ sizeLine; omega, fun p5 hp5 => ?_⟩
            have s16 := same_upd (o := .tup [.int n, .ref m3]) hp5
            have e16 := (((e12.trans s13).trans s14).trans s15).trans s16
            have hdl : FleetV K (upd H15 p5 (.tup [.int n, .ref m3])) (.ref p5) n (delR rs i) := FleetV.mkx (.of upd_same) (sqt_same s16 h3) ((hx.del i).same e16)
            have hL3 := s16 _ _ (s15 _ _ (s14 _ _ (s13 _ _ hL2)))
            generalize upd H15 p5 (.tup [.int n, .ref m3]) = H16 at e16 hdl hL3 ⊢
            refine ((hx.same e16).rat (sqt_same e16 hb)).get hri fun cq hcq => ?_
            refine ⟨.ref p5, .ref cq, n, delR rs i, rs[i], rfl, hdl, hok.del i, ⟨cq, rfl, hcq⟩, hok.2.2.2 _ (List.getElem_mem hi), diag_of_pot fun r hr => hpl.holds r (del_sub r hr), fun H17 s17 => ?_⟩
            have hL4 := s17 _ _ hL3
            have e17 := e16.trans s17
            have hrb : redB n rs i = impD (chainTab n (delR rs i)) rs[i] := by
              unfold redB
              rw [hri]
            rw [hrb]
            refine ⟨_, rfl, ?_⟩
            cases hb' : impD (chainTab n (delR rs i)) rs[i] with
            | true =>
              simp only [ite_true]
              refine ⟨_, hL4, by rw [natV_len]; omega, fun z o hz' => ?_, ?_⟩
              · rw [upd_ne (ne_of_none hz' hD2)]
                exact e17 z o hz'
              · rw [upd_same, natV_app]
                rfl
            | false =>
              simp only [Bool.false_eq_true, ite_false]
              exact ⟨e17, by rw [List.append_nil]; exact hL4⟩
          · obtain ⟨e12, hL2⟩ := hPv
            refine ⟨.ref va, n, rs, rfl, hv.mono e12, hok, D1, fun H13 l s13 hl => ?_⟩
            refine ne_same (dp_nats hl) (dp_nats (s13 _ _ hL2)) (shaped_nats _) ⟨false, rfl, ?_⟩
            simp only [Bool.false_eq_true, ite_false]
            have e13 := e12.trans s13
            have row13 := row11.mono e13
            refine ⟨a, sc, ns, n, rfl, row13, by omega, by omega, fun f0 H14 f00 f01 row14 b14 => ?_⟩
            refine ⟨a, sc, ns, n, rfl, row14, by omega, by omega, fun g0 H15 g00 g01 row15 b15 => ?_⟩
            refine ⟨_, _, ⟨rfl, rfl⟩, ?_⟩
            refine ⟨a, sc, ns, 40, rfl, row15, by omega, by omega, fun l0 H16 l00 l01 row16 b16 => ?_⟩
            obtain ⟨_, k4⟩ := row13.lst
            have b17 := (b14.trans b15).trans b16
            have hv := (hv.mono e13).but b17 k4
            have hu := (hu.mono e13).but b17 k4
            refine ⟨_, _, rfl, rfl, ?_⟩
            refine ⟨by show 3 ≤ sizeLine; omega, fun pq hpq => ?_⟩
            have sq := same_upd (o := .tup [.int f0, .int g0, .int (l0 - 20)]) hpq
            have hq0 : SqT K (upd H16 pq (.tup [.int f0, .int g0, .int (l0 - 20)])) pq [.int f0, .int g0, .int (l0 - 20)] := .of upd_same
            have row17 := row16.mono sq
            have hv := hv.mono sq
            have hu := hu.mono sq
            generalize upd H16 pq (.tup [.int f0, .int g0, .int (l0 - 20)]) = H17 at hq0 row17 hv hu ⊢
            refine ⟨rfl, ?_⟩
            by_cases hfg : f0 = g0
            · have hd : decide (V.int f0 = V.int g0) = true := decide_eq_true (by rw [hfg])
              simp only [hd, Bool.not_true, Bool.false_eq_true, ite_false]
              exact fin ⟨_, _, _, _, _, _, _, _, _, _, _, rfl⟩ row17
            · have hd : decide (V.int f0 = V.int g0) = false := decide_eq_false fun z => hfg (by injection z)
              simp only [hd, Bool.not_false, ite_true]
              refine ⟨a, sc, ns, .ref va, u, pq, n, rs, pl, xs, ⟨f0, g0, l0 - 20⟩, rfl, row17, hv, hok, n5, hpl, hu, hw, h291, hq0, ⟨f00, f01, g00, g01, hfg, by show -99 ≤ l0 - 20; omega, by show l0 - 20 ≤ 99; omega⟩, fun H18 row18 b18 => ?_⟩
              refine ⟨true, rfl, ?_⟩
              simp only [Bool.not_true, Bool.false_eq_true, ite_false]
              exact fin ⟨_, _, _, _, _, _, _, _, _, _, _, rfl⟩ row18
      · exfalso
        have := imp_mem (n := n) (f2 q (List.mem_of_getElem? hq))
        rw [hf] at this
        cases this
    · exfalso
      have := imp_mem (n := n) (List.mem_of_getElem? hq)
      rw [← f1, hf] at this
      cases this
  · obtain ⟨x2, x3, x4, x5, x6, x7, x8, x9, x10, x11, x12, rfl, row0⟩ := hPv
    walk_at "rd"
    exact q _
end
end Hx

set_option Elab.async false
set_option linter.all false
set_option maxRecDepth 100000
set_option maxHeartbeats 4000000
namespace Hx
open PySem PySem.Spec PyProof.Rows L2
/-- the text's top, as it stands when the law begins -/
theorem all_mk {l : PySem.W.OpenLaw} {w : World} {K : PySem.W.Frag} {h : Heap} {mg : Str → Option Value} {fa : Addr} {f0 f1 f2 f3 f4 f5 f6 f7 f8 f9 f10 f11 f12 f13 f14 f15 f16 f17 f18 f19 f20 f21 f22 f23 f24 f25 f26 f27 f28 f29 f30 f31 f32 f33 f34 f35 f36 f37 f38 f39 f40 f41 : Addr}
    {od0 an0 od1 an1 od2 an2 od3 an3 od4 an4 od5 an5 od6 an6 od7 an7 od8 an8 od9 an9 od10 an10 od11 an11 od12 an12 od13 an13 od14 an14 od15 an15 od16 an16 od17 an17 od18 an18 od19 an19 od20 an20 od21 an21 od22 an22 od23 an23 od24 an24 od25 an25 od26 an26 od27 an27 od28 an28 od29 an29 od30 an30 od31 an31 od32 an32 od33 an33 od34 an34 od35 an35 od36 an36 od37 an37 od38 an38 od39 an39 od40 an40 od41 an41 : Option Addr}
    {sl0 sl1 sl2 sl3 sl4 sl5 sl6 sl7 sl8 sl9 sl10 sl11 sl12 sl13 sl14 sl15 sl16 sl17 sl18 sl19 sl20 sl21 sl22 sl23 sl24 sl25 sl26 sl27 sl28 sl29 sl30 sl31 sl32 sl33 sl34 sl35 sl36 sl37 sl38 sl39 sl40 sl41 : Array (Option Value)}
    {oc0 dc0 pm0 cd0 ct0 kV0 oc1 dc1 pm1 cd1 ct1 kV1 oc2 dc2 pm2 cd2 ct2 kV2 oc3 dc3 pm3 cd3 ct3 kV3 oc4 dc4 pm4 cd4 ct4 kV4 oc5 dc5 pm5 cd5 ct5 kV5 oc6 dc6 pm6 cd6 ct6 kV6 oc7 dc7 pm7 cd7 ct7 kV7 oc8 dc8 pm8 cd8 ct8 kV8 oc9 dc9 pm9 cd9 ct9 kV9 oc10 dc10 pm10 cd10 ct10 kV10 oc11 dc11 pm11 cd11 ct11 kV11 oc12 dc12 pm12 cd12 ct12 kV12 oc13 dc13 pm13 cd13 ct13 kV13 oc14 dc14 pm14 cd14 ct14 kV14 oc15 dc15 pm15 cd15 ct15 kV15 oc16 dc16 pm16 cd16 ct16 kV16 oc17 dc17 pm17 cd17 ct17 kV17 oc18 dc18 pm18 cd18 ct18 kV18 oc19 dc19 pm19 cd19 ct19 kV19 oc20 dc20 pm20 cd20 ct20 kV20 oc21 dc21 pm21 cd21 ct21 kV21 oc22 dc22 pm22 cd22 ct22 kV22 oc23 dc23 pm23 cd23 ct23 kV23 oc24 dc24 pm24 cd24 ct24 kV24 oc25 dc25 pm25 cd25 ct25 kV25 oc26 dc26 pm26 cd26 ct26 kV26 oc27 dc27 pm27 cd27 ct27 kV27 oc28 dc28 pm28 cd28 ct28 kV28 oc29 dc29 pm29 cd29 ct29 kV29 oc30 dc30 pm30 cd30 ct30 kV30 oc31 dc31 pm31 cd31 ct31 kV31 oc32 dc32 pm32 cd32 ct32 kV32 oc33 dc33 pm33 cd33 ct33 kV33 oc34 dc34 pm34 cd34 ct34 kV34 oc35 dc35 pm35 cd35 ct35 kV35 oc36 dc36 pm36 cd36 ct36 kV36 oc37 dc37 pm37 cd37 ct37 kV37 oc38 dc38 pm38 cd38 ct38 kV38 oc39 dc39 pm39 cd39 ct39 kV39 oc40 dc40 pm40 cd40 ct40 kV40 oc41 dc41 pm41 cd41 ct41 kV41 : Value}
    {u0 u1 u2 u3 u4 u5 : Tok} (X : K.In h) (G : h.Ns mainGlobals mg) (hfa : mg "law" = some (.ref fa))
    (a0 : PySem.W.nsIn K mainGlobals "is_number" = some (some (.ref f0))) (l0 : K.lookup f0 = some ⟨oc0, od0, .func (PySem.W.fnOf "is_number" "is_number" (defArgs s_is_number) (defBody s_is_number) (defScope s_is_number) .none kV0 dc0 pm0 an0 cd0 ct0), sl0⟩) (c0 : PySem.W.codeIn K cd0 "is_number" = true) (k0 : PySem.W.keepIn K (.ref f0) = true)
    (a1 : PySem.W.nsIn K mainGlobals "is_barge" = some (some (.ref f1))) (l1 : K.lookup f1 = some ⟨oc1, od1, .func (PySem.W.fnOf "is_barge" "is_barge" (defArgs s_is_barge) (defBody s_is_barge) (defScope s_is_barge) .none kV1 dc1 pm1 an1 cd1 ct1), sl1⟩) (c1 : PySem.W.codeIn K cd1 "is_barge" = true) (k1 : PySem.W.keepIn K (.ref f1) = true)
    (a2 : PySem.W.nsIn K mainGlobals "is_rope" = some (some (.ref f2))) (l2 : K.lookup f2 = some ⟨oc2, od2, .func (PySem.W.fnOf "is_rope" "is_rope" (defArgs s_is_rope) (defBody s_is_rope) (defScope s_is_rope) .none kV2 dc2 pm2 an2 cd2 ct2), sl2⟩) (c2 : PySem.W.codeIn K cd2 "is_rope" = true) (k2 : PySem.W.keepIn K (.ref f2) = true)
    (a3 : PySem.W.nsIn K mainGlobals "check_fleet" = some (some (.ref f3))) (l3 : K.lookup f3 = some ⟨oc3, od3, .func (PySem.W.fnOf "check_fleet" "check_fleet" (defArgs s_check_fleet) (defBody s_check_fleet) (defScope s_check_fleet) .none kV3 dc3 pm3 an3 cd3 ct3), sl3⟩) (c3 : PySem.W.codeIn K cd3 "check_fleet" = true) (k3 : PySem.W.keepIn K (.ref f3) = true)
    (a4 : PySem.W.nsIn K mainGlobals "first_wrong_entry" = some (some (.ref f4))) (l4 : K.lookup f4 = some ⟨oc4, od4, .func (PySem.W.fnOf "first_wrong_entry" "first_wrong_entry" (defArgs s_first_wrong_entry) (defBody s_first_wrong_entry) (defScope s_first_wrong_entry) .none kV4 dc4 pm4 an4 cd4 ct4), sl4⟩) (c4 : PySem.W.codeIn K cd4 "first_wrong_entry" = true) (k4 : PySem.W.keepIn K (.ref f4) = true)
    (a5 : PySem.W.nsIn K mainGlobals "check_positions" = some (some (.ref f5))) (l5 : K.lookup f5 = some ⟨oc5, od5, .func (PySem.W.fnOf "check_positions" "check_positions" (defArgs s_check_positions) (defBody s_check_positions) (defScope s_check_positions) .none kV5 dc5 pm5 an5 cd5 ct5), sl5⟩) (c5 : PySem.W.codeIn K cd5 "check_positions" = true) (k5 : PySem.W.keepIn K (.ref f5) = true)
    (a6 : PySem.W.nsIn K mainGlobals "unsatisfied_ropes" = some (some (.ref f6))) (l6 : K.lookup f6 = some ⟨oc6, od6, .func (PySem.W.fnOf "unsatisfied_ropes" "unsatisfied_ropes" (defArgs s_unsatisfied_ropes) (defBody s_unsatisfied_ropes) (defScope s_unsatisfied_ropes) .none kV6 dc6 pm6 an6 cd6 ct6), sl6⟩) (c6 : PySem.W.codeIn K cd6 "unsatisfied_ropes" = true) (k6 : PySem.W.keepIn K (.ref f6) = true)
    (a7 : PySem.W.nsIn K mainGlobals "check_valid" = some (some (.ref f7))) (l7 : K.lookup f7 = some ⟨oc7, od7, .func (PySem.W.fnOf "check_valid" "check_valid" (defArgs s_check_valid) (defBody s_check_valid) (defScope s_check_valid) .none kV7 dc7 pm7 an7 cd7 ct7), sl7⟩) (c7 : PySem.W.codeIn K cd7 "check_valid" = true) (k7 : PySem.W.keepIn K (.ref f7) = true)
    (a8 : PySem.W.nsIn K mainGlobals "keep_less" = some (some (.ref f8))) (l8 : K.lookup f8 = some ⟨oc8, od8, .func (PySem.W.fnOf "keep_less" "keep_less" (defArgs s_keep_less) (defBody s_keep_less) (defScope s_keep_less) .none kV8 dc8 pm8 an8 cd8 ct8), sl8⟩) (c8 : PySem.W.codeIn K cd8 "keep_less" = true) (k8 : PySem.W.keepIn K (.ref f8) = true)
    (a9 : PySem.W.nsIn K mainGlobals "chain_table" = some (some (.ref f9))) (l9 : K.lookup f9 = some ⟨oc9, od9, .func (PySem.W.fnOf "chain_table" "chain_table" (defArgs s_chain_table) (defBody s_chain_table) (defScope s_chain_table) .none kV9 dc9 pm9 an9 cd9 ct9), sl9⟩) (c9 : PySem.W.codeIn K cd9 "chain_table" = true) (k9 : PySem.W.keepIn K (.ref f9) = true)
    (a10 : PySem.W.nsIn K mainGlobals "check_table" = some (some (.ref f10))) (l10 : K.lookup f10 = some ⟨oc10, od10, .func (PySem.W.fnOf "check_table" "check_table" (defArgs s_check_table) (defBody s_check_table) (defScope s_check_table) .none kV10 dc10 pm10 an10 cd10 ct10), sl10⟩) (c10 : PySem.W.codeIn K cd10 "check_table" = true) (k10 : PySem.W.keepIn K (.ref f10) = true)
    (a11 : PySem.W.nsIn K mainGlobals "chain_length" = some (some (.ref f11))) (l11 : K.lookup f11 = some ⟨oc11, od11, .func (PySem.W.fnOf "chain_length" "chain_length" (defArgs s_chain_length) (defBody s_chain_length) (defScope s_chain_length) .none kV11 dc11 pm11 an11 cd11 ct11), sl11⟩) (c11 : PySem.W.codeIn K cd11 "chain_length" = true) (k11 : PySem.W.keepIn K (.ref f11) = true)
    (a12 : PySem.W.nsIn K mainGlobals "move_barge" = some (some (.ref f12))) (l12 : K.lookup f12 = some ⟨oc12, od12, .func (PySem.W.fnOf "move_barge" "move_barge" (defArgs s_move_barge) (defBody s_move_barge) (defScope s_move_barge) .none kV12 dc12 pm12 an12 cd12 ct12), sl12⟩) (c12 : PySem.W.codeIn K cd12 "move_barge" = true) (k12 : PySem.W.keepIn K (.ref f12) = true)
    (a13 : PySem.W.nsIn K mainGlobals "is_haul" = some (some (.ref f13))) (l13 : K.lookup f13 = some ⟨oc13, od13, .func (PySem.W.fnOf "is_haul" "is_haul" (defArgs s_is_haul) (defBody s_is_haul) (defScope s_is_haul) .none kV13 dc13 pm13 an13 cd13 ct13), sl13⟩) (c13 : PySem.W.codeIn K cd13 "is_haul" = true) (k13 : PySem.W.keepIn K (.ref f13) = true)
    (a14 : PySem.W.nsIn K mainGlobals "follow_hauls" = some (some (.ref f14))) (l14 : K.lookup f14 = some ⟨oc14, od14, .func (PySem.W.fnOf "follow_hauls" "follow_hauls" (defArgs s_follow_hauls) (defBody s_follow_hauls) (defScope s_follow_hauls) .none kV14 dc14 pm14 an14 cd14 ct14), sl14⟩) (c14 : PySem.W.codeIn K cd14 "follow_hauls" = true) (k14 : PySem.W.keepIn K (.ref f14) = true)
    (a15 : PySem.W.nsIn K mainGlobals "haul_all" = some (some (.ref f15))) (l15 : K.lookup f15 = some ⟨oc15, od15, .func (PySem.W.fnOf "haul_all" "haul_all" (defArgs s_haul_all) (defBody s_haul_all) (defScope s_haul_all) .none kV15 dc15 pm15 an15 cd15 ct15), sl15⟩) (c15 : PySem.W.codeIn K cd15 "haul_all" = true) (k15 : PySem.W.keepIn K (.ref f15) = true)
    (a16 : PySem.W.nsIn K mainGlobals "haul" = some (some (.ref f16))) (l16 : K.lookup f16 = some ⟨oc16, od16, .func (PySem.W.fnOf "haul" "haul" (defArgs s_haul) (defBody s_haul) (defScope s_haul) .none kV16 dc16 pm16 an16 cd16 ct16), sl16⟩) (c16 : PySem.W.codeIn K cd16 "haul" = true) (k16 : PySem.W.keepIn K (.ref f16) = true)
    (a17 : PySem.W.nsIn K mainGlobals "_law_taken" = some (some (.ref f17))) (l17 : K.lookup f17 = some ⟨oc17, od17, .func (PySem.W.fnOf "_law_taken" "_law_taken" (defArgs s_law_taken) (defBody s_law_taken) (defScope s_law_taken) .none kV17 dc17 pm17 an17 cd17 ct17), sl17⟩) (c17 : PySem.W.codeIn K cd17 "_law_taken" = true) (k17 : PySem.W.keepIn K (.ref f17) = true)
    (a18 : PySem.W.nsIn K mainGlobals "_law_settled" = some (some (.ref f18))) (l18 : K.lookup f18 = some ⟨oc18, od18, .func (PySem.W.fnOf "_law_settled" "_law_settled" (defArgs s_law_settled) (defBody s_law_settled) (defScope s_law_settled) .none kV18 dc18 pm18 an18 cd18 ct18), sl18⟩) (c18 : PySem.W.codeIn K cd18 "_law_settled" = true) (k18 : PySem.W.keepIn K (.ref f18) = true)
    (a19 : PySem.W.nsIn K mainGlobals "_law_fleet" = some (some (.ref f19))) (l19 : K.lookup f19 = some ⟨oc19, od19, .func (PySem.W.fnOf "_law_fleet" "_law_fleet" (defArgs s_law_fleet) (defBody s_law_fleet) (defScope s_law_fleet) .none kV19 dc19 pm19 an19 cd19 ct19), sl19⟩) (c19 : PySem.W.codeIn K cd19 "_law_fleet" = true) (k19 : PySem.W.keepIn K (.ref f19) = true)
    (a20 : PySem.W.nsIn K mainGlobals "_law_positions" = some (some (.ref f20))) (l20 : K.lookup f20 = some ⟨oc20, od20, .func (PySem.W.fnOf "_law_positions" "_law_positions" (defArgs s_law_positions) (defBody s_law_positions) (defScope s_law_positions) .none kV20 dc20 pm20 an20 cd20 ct20), sl20⟩) (c20 : PySem.W.codeIn K cd20 "_law_positions" = true) (k20 : PySem.W.keepIn K (.ref f20) = true)
    (a21 : PySem.W.nsIn K mainGlobals "_law_start" = some (some (.ref f21))) (l21 : K.lookup f21 = some ⟨oc21, od21, .func (PySem.W.fnOf "_law_start" "_law_start" (defArgs s_law_start) (defBody s_law_start) (defScope s_law_start) .none kV21 dc21 pm21 an21 cd21 ct21), sl21⟩) (c21 : PySem.W.codeIn K cd21 "_law_start" = true) (k21 : PySem.W.keepIn K (.ref f21) = true)
    (a22 : PySem.W.nsIn K mainGlobals "check_rope" = some (some (.ref f22))) (l22 : K.lookup f22 = some ⟨oc22, od22, .func (PySem.W.fnOf "check_rope" "check_rope" (defArgs s_check_rope) (defBody s_check_rope) (defScope s_check_rope) .none kV22 dc22 pm22 an22 cd22 ct22), sl22⟩) (c22 : PySem.W.codeIn K cd22 "check_rope" = true) (k22 : PySem.W.keepIn K (.ref f22) = true)
    (a23 : PySem.W.nsIn K mainGlobals "is_implied" = some (some (.ref f23))) (l23 : K.lookup f23 = some ⟨oc23, od23, .func (PySem.W.fnOf "is_implied" "is_implied" (defArgs s_is_implied) (defBody s_is_implied) (defScope s_is_implied) .none kV23 dc23 pm23 an23 cd23 ct23), sl23⟩) (c23 : PySem.W.codeIn K cd23 "is_implied" = true) (k23 : PySem.W.keepIn K (.ref f23) = true)
    (a24 : PySem.W.nsIn K mainGlobals "implied" = some (some (.ref f24))) (l24 : K.lookup f24 = some ⟨oc24, od24, .func (PySem.W.fnOf "implied" "implied" (defArgs s_implied) (defBody s_implied) (defScope s_implied) .none kV24 dc24 pm24 an24 cd24 ct24), sl24⟩) (c24 : PySem.W.codeIn K cd24 "implied" = true) (k24 : PySem.W.keepIn K (.ref f24) = true)
    (a25 : PySem.W.nsIn K mainGlobals "without_rope" = some (some (.ref f25))) (l25 : K.lookup f25 = some ⟨oc25, od25, .func (PySem.W.fnOf "without_rope" "without_rope" (defArgs s_without_rope) (defBody s_without_rope) (defScope s_without_rope) .none kV25 dc25 pm25 an25 cd25 ct25), sl25⟩) (c25 : PySem.W.codeIn K cd25 "without_rope" = true) (k25 : PySem.W.keepIn K (.ref f25) = true)
    (a26 : PySem.W.nsIn K mainGlobals "is_redundant" = some (some (.ref f26))) (l26 : K.lookup f26 = some ⟨oc26, od26, .func (PySem.W.fnOf "is_redundant" "is_redundant" (defArgs s_is_redundant) (defBody s_is_redundant) (defScope s_is_redundant) .none kV26 dc26 pm26 an26 cd26 ct26), sl26⟩) (c26 : PySem.W.codeIn K cd26 "is_redundant" = true) (k26 : PySem.W.keepIn K (.ref f26) = true)
    (a27 : PySem.W.nsIn K mainGlobals "redundant_ropes" = some (some (.ref f27))) (l27 : K.lookup f27 = some ⟨oc27, od27, .func (PySem.W.fnOf "redundant_ropes" "redundant_ropes" (defArgs s_redundant_ropes) (defBody s_redundant_ropes) (defScope s_redundant_ropes) .none kV27 dc27 pm27 an27 cd27 ct27), sl27⟩) (c27 : PySem.W.codeIn K cd27 "redundant_ropes" = true) (k27 : PySem.W.keepIn K (.ref f27) = true)
    (a28 : PySem.W.nsIn K mainGlobals "reduce_ropes" = some (some (.ref f28))) (l28 : K.lookup f28 = some ⟨oc28, od28, .func (PySem.W.fnOf "reduce_ropes" "reduce_ropes" (defArgs s_reduce_ropes) (defBody s_reduce_ropes) (defScope s_reduce_ropes) .none kV28 dc28 pm28 an28 cd28 ct28), sl28⟩) (c28 : PySem.W.codeIn K cd28 "reduce_ropes" = true) (k28 : PySem.W.keepIn K (.ref f28) = true)
    (a29 : PySem.W.nsIn K mainGlobals "missing_rope" = some (some (.ref f29))) (l29 : K.lookup f29 = some ⟨oc29, od29, .func (PySem.W.fnOf "missing_rope" "missing_rope" (defArgs s_missing_rope) (defBody s_missing_rope) (defScope s_missing_rope) .none kV29 dc29 pm29 an29 cd29 ct29), sl29⟩) (c29 : PySem.W.codeIn K cd29 "missing_rope" = true) (k29 : PySem.W.keepIn K (.ref f29) = true)
    (a30 : PySem.W.nsIn K mainGlobals "rearmost_positions" = some (some (.ref f30))) (l30 : K.lookup f30 = some ⟨oc30, od30, .func (PySem.W.fnOf "rearmost_positions" "rearmost_positions" (defArgs s_rearmost_positions) (defBody s_rearmost_positions) (defScope s_rearmost_positions) .none kV30 dc30 pm30 an30 cd30 ct30), sl30⟩) (c30 : PySem.W.codeIn K cd30 "rearmost_positions" = true) (k30 : PySem.W.keepIn K (.ref f30) = true)
    (a31 : PySem.W.nsIn K mainGlobals "counterexample" = some (some (.ref f31))) (l31 : K.lookup f31 = some ⟨oc31, od31, .func (PySem.W.fnOf "counterexample" "counterexample" (defArgs s_counterexample) (defBody s_counterexample) (defScope s_counterexample) .none kV31 dc31 pm31 an31 cd31 ct31), sl31⟩) (c31 : PySem.W.codeIn K cd31 "counterexample" = true) (k31 : PySem.W.keepIn K (.ref f31) = true)
    (a32 : PySem.W.nsIn K mainGlobals "broken_ropes" = some (some (.ref f32))) (l32 : K.lookup f32 = some ⟨oc32, od32, .func (PySem.W.fnOf "broken_ropes" "broken_ropes" (defArgs s_broken_ropes) (defBody s_broken_ropes) (defScope s_broken_ropes) .none kV32 dc32 pm32 an32 cd32 ct32), sl32⟩) (c32 : PySem.W.codeIn K cd32 "broken_ropes" = true) (k32 : PySem.W.keepIn K (.ref f32) = true)
    (a33 : PySem.W.nsIn K mainGlobals "count_placings" = some (some (.ref f33))) (l33 : K.lookup f33 = some ⟨oc33, od33, .func (PySem.W.fnOf "count_placings" "count_placings" (defArgs s_count_placings) (defBody s_count_placings) (defScope s_count_placings) .none kV33 dc33 pm33 an33 cd33 ct33), sl33⟩) (c33 : PySem.W.codeIn K cd33 "count_placings" = true) (k33 : PySem.W.keepIn K (.ref f33) = true)
    (a34 : PySem.W.nsIn K mainGlobals "count_positions" = some (some (.ref f34))) (l34 : K.lookup f34 = some ⟨oc34, od34, .func (PySem.W.fnOf "count_positions" "count_positions" (defArgs s_count_positions) (defBody s_count_positions) (defScope s_count_positions) .none kV34 dc34 pm34 an34 cd34 ct34), sl34⟩) (c34 : PySem.W.codeIn K cd34 "count_positions" = true) (k34 : PySem.W.keepIn K (.ref f34) = true)
    (a35 : PySem.W.nsIn K mainGlobals "is_pair" = some (some (.ref f35))) (l35 : K.lookup f35 = some ⟨oc35, od35, .func (PySem.W.fnOf "is_pair" "is_pair" (defArgs s_is_pair) (defBody s_is_pair) (defScope s_is_pair) .none kV35 dc35 pm35 an35 cd35 ct35), sl35⟩) (c35 : PySem.W.codeIn K cd35 "is_pair" = true) (k35 : PySem.W.keepIn K (.ref f35) = true)
    (a36 : PySem.W.nsIn K mainGlobals "check_pairs" = some (some (.ref f36))) (l36 : K.lookup f36 = some ⟨oc36, od36, .func (PySem.W.fnOf "check_pairs" "check_pairs" (defArgs s_check_pairs) (defBody s_check_pairs) (defScope s_check_pairs) .none kV36 dc36 pm36 an36 cd36 ct36), sl36⟩) (c36 : PySem.W.codeIn K cd36 "check_pairs" = true) (k36 : PySem.W.keepIn K (.ref f36) = true)
    (a37 : PySem.W.nsIn K mainGlobals "greatest_lead" = some (some (.ref f37))) (l37 : K.lookup f37 = some ⟨oc37, od37, .func (PySem.W.fnOf "greatest_lead" "greatest_lead" (defArgs s_greatest_lead) (defBody s_greatest_lead) (defScope s_greatest_lead) .none kV37 dc37 pm37 an37 cd37 ct37), sl37⟩) (c37 : PySem.W.codeIn K cd37 "greatest_lead" = true) (k37 : PySem.W.keepIn K (.ref f37) = true)
    (a38 : PySem.W.nsIn K mainGlobals "shortest_ropes" = some (some (.ref f38))) (l38 : K.lookup f38 = some ⟨oc38, od38, .func (PySem.W.fnOf "shortest_ropes" "shortest_ropes" (defArgs s_shortest_ropes) (defBody s_shortest_ropes) (defScope s_shortest_ropes) .none kV38 dc38 pm38 an38 cd38 ct38), sl38⟩) (c38 : PySem.W.codeIn K cd38 "shortest_ropes" = true) (k38 : PySem.W.keepIn K (.ref f38) = true)
    (a39 : PySem.W.nsIn K mainGlobals "_law_are_alike" = some (some (.ref f39))) (l39 : K.lookup f39 = some ⟨oc39, od39, .func (PySem.W.fnOf "_law_are_alike" "_law_are_alike" (defArgs s_law_are_alike) (defBody s_law_are_alike) (defScope s_law_are_alike) .none kV39 dc39 pm39 an39 cd39 ct39), sl39⟩) (c39 : PySem.W.codeIn K cd39 "_law_are_alike" = true) (k39 : PySem.W.keepIn K (.ref f39) = true)
    (a40 : PySem.W.nsIn K mainGlobals "_law_is_rope" = some (some (.ref f40))) (l40 : K.lookup f40 = some ⟨oc40, od40, .func (PySem.W.fnOf "_law_is_rope" "_law_is_rope" (defArgs s_law_is_rope) (defBody s_law_is_rope) (defScope s_law_is_rope) .none kV40 dc40 pm40 an40 cd40 ct40), sl40⟩) (c40 : PySem.W.codeIn K cd40 "_law_is_rope" = true) (k40 : PySem.W.keepIn K (.ref f40) = true)
    (a41 : PySem.W.nsIn K mainGlobals "law" = some (some (.ref f41))) (l41 : K.lookup f41 = some ⟨oc41, od41, .func (PySem.W.fnOf "law" "law" (defArgs s_law) (defBody s_law) (defScope s_law) .none kV41 dc41 pm41 an41 cd41 ct41), sl41⟩) (c41 : PySem.W.codeIn K cd41 "law" = true) (k41 : PySem.W.keepIn K (.ref f41) = true)
    (y0 : PySem.W.nsIn K mainGlobals "FARTHEST" = some (some (.int 9999 u0)))
    (y1 : PySem.W.nsIn K mainGlobals "FARTHEST_COUNTED" = some (some (.int 12 u1)))
    (y2 : PySem.W.nsIn K mainGlobals "LONGEST" = some (some (.int 99 u2)))
    (y3 : PySem.W.nsIn K mainGlobals "MOST_BARGES" = some (some (.int 8 u3)))
    (y4 : PySem.W.nsIn K mainGlobals "MOST_COUNTED" = some (some (.int 5 u4)))
    (y5 : PySem.W.nsIn K mainGlobals "MOST_ROPES" = some (some (.int 40 u5)))
    (z0 : PySem.W.nsIn K mainGlobals "len" = some none)
    (z1 : PySem.W.nsIn K mainGlobals "isinstance" = some none)
    (z2 : PySem.W.nsIn K mainGlobals "int" = some none)
    (z3 : PySem.W.nsIn K mainGlobals "bool" = some none)
    (z4 : PySem.W.nsIn K mainGlobals "tuple" = some none)
    (z5 : PySem.W.nsIn K mainGlobals "list" = some none)
    (z6 : PySem.W.nsIn K mainGlobals "range" = some none)
    (z7 : PySem.W.nsIn K mainGlobals "enumerate" = some none)
    (z8 : PySem.W.nsIn K mainGlobals "zip" = some none)
    (z9 : PySem.W.nsIn K mainGlobals "max" = some none)
    (z10 : PySem.W.nsIn K mainGlobals "min" = some none)
    (z11 : PySem.W.nsIn K mainGlobals "sum" = some none)
    (z12 : PySem.W.nsIn K mainGlobals "sorted" = some none)
    (z13 : PySem.W.nsIn K mainGlobals "dict" = some none)
    (z14 : PySem.W.nsIn K mainGlobals "set" = some none)
    (z15 : PySem.W.nsIn K mainGlobals "abs" = some none)
    (z16 : PySem.W.nsIn K mainGlobals "reversed" = some none)
    (z17 : PySem.W.nsIn K mainGlobals "str" = some none) :
    ∃ fd : FuncData, (∀ (s : Shared) (v : Value), BindsTo s fd ⟨[v], []⟩ [("_law_script", v)]) ∧ ∀ base : Heap, K.In base → base.Ns mainGlobals mg → FnOk l.prog w K mg base CX0 10 fa fd ["_law_script"] (sp_law K) := by
  have e := hfa.symm.trans (PySem.W.mg_of X G a41)
  cases e
  have B : Blt mg := ⟨PySem.W.mg_none_of X G z0, PySem.W.mg_none_of X G z1, PySem.W.mg_none_of X G z2, PySem.W.mg_none_of X G z3, PySem.W.mg_none_of X G z4, PySem.W.mg_none_of X G z5, PySem.W.mg_none_of X G z6, PySem.W.mg_none_of X G z7, PySem.W.mg_none_of X G z8, PySem.W.mg_none_of X G z9, PySem.W.mg_none_of X G z10⟩
  have B2 : Blt2 mg := ⟨PySem.W.mg_none_of X G z11, PySem.W.mg_none_of X G z12, PySem.W.mg_none_of X G z13, PySem.W.mg_none_of X G z14, PySem.W.mg_none_of X G z15, PySem.W.mg_none_of X G z16, PySem.W.mg_none_of X G z17⟩
  have C_FARTHEST : ∃ u, mg "FARTHEST" = some (.int 9999 u) := ⟨_, PySem.W.mg_of X G y0⟩
  have C_FARTHEST_COUNTED : ∃ u, mg "FARTHEST_COUNTED" = some (.int 12 u) := ⟨_, PySem.W.mg_of X G y1⟩
  have C_LONGEST : ∃ u, mg "LONGEST" = some (.int 99 u) := ⟨_, PySem.W.mg_of X G y2⟩
  have C_MOST_BARGES : ∃ u, mg "MOST_BARGES" = some (.int 8 u) := ⟨_, PySem.W.mg_of X G y3⟩
  have C_MOST_COUNTED : ∃ u, mg "MOST_COUNTED" = some (.int 5 u) := ⟨_, PySem.W.mg_of X G y4⟩
  have C_MOST_ROPES : ∃ u, mg "MOST_ROPES" = some (.int 40 u) := ⟨_, PySem.W.mg_of X G y5⟩
  refine ⟨PySem.W.fnOf "law" "law" (defArgs s_law) (defBody s_law) (defScope s_law) .none kV41 dc41 pm41 an41 cd41 ct41, fun s v => .of_eq rfl, fun base _ _ => ?_⟩
  have D_is_number := df_is_number (P := l.prog) (w := w) (base := base) (K := K) (mg := mg) ⟨_, _, fun_mk (st := s_is_number) l0 c0 k0, PySem.W.mg_of X G a0⟩ B
  have D_is_barge := df_is_barge (P := l.prog) (w := w) (base := base) (K := K) (mg := mg) ⟨_, _, fun_mk (st := s_is_barge) l1 c1 k1, PySem.W.mg_of X G a1⟩ D_is_number
  have D_is_rope := df_is_rope (P := l.prog) (w := w) (base := base) (K := K) (mg := mg) ⟨_, _, fun_mk (st := s_is_rope) l2 c2 k2, PySem.W.mg_of X G a2⟩ B C_LONGEST D_is_number D_is_barge
  have D_check_fleet := df_check_fleet (P := l.prog) (w := w) (base := base) (K := K) (mg := mg) ⟨_, _, fun_mk (st := s_check_fleet) l3 c3 k3, PySem.W.mg_of X G a3⟩ B C_MOST_BARGES C_MOST_ROPES D_is_number D_is_rope
  have D_first_wrong_entry := df_first_wrong_entry (P := l.prog) (w := w) (base := base) (K := K) (mg := mg) ⟨_, _, fun_mk (st := s_first_wrong_entry) l4 c4 k4, PySem.W.mg_of X G a4⟩ B C_FARTHEST D_is_number
  have D_check_positions := df_check_positions (P := l.prog) (w := w) (base := base) (K := K) (mg := mg) ⟨_, _, fun_mk (st := s_check_positions) l5 c5 k5, PySem.W.mg_of X G a5⟩ D_first_wrong_entry
  have D_unsatisfied_ropes := df_unsatisfied_ropes (P := l.prog) (w := w) (base := base) (K := K) (mg := mg) ⟨_, _, fun_mk (st := s_unsatisfied_ropes) l6 c6 k6, PySem.W.mg_of X G a6⟩ B
  have D_check_valid := df_check_valid (P := l.prog) (w := w) (base := base) (K := K) (mg := mg) ⟨_, _, fun_mk (st := s_check_valid) l7 c7 k7, PySem.W.mg_of X G a7⟩ B D_check_positions D_unsatisfied_ropes
  have D_keep_less := df_keep_less (P := l.prog) (w := w) (base := base) (K := K) (mg := mg) ⟨_, _, fun_mk (st := s_keep_less) l8 c8 k8, PySem.W.mg_of X G a8⟩ 
  have D_chain_table := df_chain_table (P := l.prog) (w := w) (base := base) (K := K) (mg := mg) ⟨_, _, fun_mk (st := s_chain_table) l9 c9 k9, PySem.W.mg_of X G a9⟩ B D_keep_less
  have D_check_table := df_check_table (P := l.prog) (w := w) (base := base) (K := K) (mg := mg) ⟨_, _, fun_mk (st := s_check_table) l10 c10 k10, PySem.W.mg_of X G a10⟩ B
  have D_chain_length := df_chain_length (P := l.prog) (w := w) (base := base) (K := K) (mg := mg) ⟨_, _, fun_mk (st := s_chain_length) l11 c11 k11, PySem.W.mg_of X G a11⟩ D_check_fleet D_is_barge D_chain_table D_check_table
  have D_move_barge := df_move_barge (P := l.prog) (w := w) (base := base) (K := K) (mg := mg) ⟨_, _, fun_mk (st := s_move_barge) l12 c12 k12, PySem.W.mg_of X G a12⟩ B
  have D_is_haul := df_is_haul (P := l.prog) (w := w) (base := base) (K := K) (mg := mg) ⟨_, _, fun_mk (st := s_is_haul) l13 c13 k13, PySem.W.mg_of X G a13⟩ B C_FARTHEST D_is_number D_is_barge
  have D_follow_hauls := df_follow_hauls (P := l.prog) (w := w) (base := base) (K := K) (mg := mg) ⟨_, _, fun_mk (st := s_follow_hauls) l14 c14 k14, PySem.W.mg_of X G a14⟩ B D_check_fleet D_check_valid D_chain_table D_is_haul D_move_barge
  have D_haul_all := df_haul_all (P := l.prog) (w := w) (base := base) (K := K) (mg := mg) ⟨_, _, fun_mk (st := s_haul_all) l15 c15 k15, PySem.W.mg_of X G a15⟩ D_follow_hauls
  have D_haul := df_haul (P := l.prog) (w := w) (base := base) (K := K) (mg := mg) ⟨_, _, fun_mk (st := s_haul) l16 c16 k16, PySem.W.mg_of X G a16⟩ D_haul_all
  have D_law_taken := df_law_taken (P := l.prog) (w := w) (base := base) (K := K) (mg := mg) ⟨_, _, fun_mk (st := s_law_taken) l17 c17 k17, PySem.W.mg_of X G a17⟩ B
  have D_law_settled := df_law_settled (P := l.prog) (w := w) (base := base) (K := K) (mg := mg) ⟨_, _, fun_mk (st := s_law_settled) l18 c18 k18, PySem.W.mg_of X G a18⟩ B
  have D_law_fleet := df_law_fleet (P := l.prog) (w := w) (base := base) (K := K) (mg := mg) ⟨_, _, fun_mk (st := s_law_fleet) l19 c19 k19, PySem.W.mg_of X G a19⟩ B D_law_taken
  have D_law_positions := df_law_positions (P := l.prog) (w := w) (base := base) (K := K) (mg := mg) ⟨_, _, fun_mk (st := s_law_positions) l20 c20 k20, PySem.W.mg_of X G a20⟩ B D_law_taken D_law_settled
  have D_law_start := df_law_start (P := l.prog) (w := w) (base := base) (K := K) (mg := mg) ⟨_, _, fun_mk (st := s_law_start) l21 c21 k21, PySem.W.mg_of X G a21⟩ B D_law_taken D_law_positions
  have D_check_rope := df_check_rope (P := l.prog) (w := w) (base := base) (K := K) (mg := mg) ⟨_, _, fun_mk (st := s_check_rope) l22 c22 k22, PySem.W.mg_of X G a22⟩ D_is_rope
  have D_is_implied := df_is_implied (P := l.prog) (w := w) (base := base) (K := K) (mg := mg) ⟨_, _, fun_mk (st := s_is_implied) l23 c23 k23, PySem.W.mg_of X G a23⟩ 
  have D_implied := df_implied (P := l.prog) (w := w) (base := base) (K := K) (mg := mg) ⟨_, _, fun_mk (st := s_implied) l24 c24 k24, PySem.W.mg_of X G a24⟩ D_check_fleet D_check_rope D_chain_table D_check_table D_is_implied
  have D_without_rope := df_without_rope (P := l.prog) (w := w) (base := base) (K := K) (mg := mg) ⟨_, _, fun_mk (st := s_without_rope) l25 c25 k25, PySem.W.mg_of X G a25⟩ 
  have D_is_redundant := df_is_redundant (P := l.prog) (w := w) (base := base) (K := K) (mg := mg) ⟨_, _, fun_mk (st := s_is_redundant) l26 c26 k26, PySem.W.mg_of X G a26⟩ D_is_implied D_chain_table D_without_rope
  have D_redundant_ropes := df_redundant_ropes (P := l.prog) (w := w) (base := base) (K := K) (mg := mg) ⟨_, _, fun_mk (st := s_redundant_ropes) l27 c27 k27, PySem.W.mg_of X G a27⟩ B D_check_fleet D_check_table D_chain_table D_is_redundant
  have D_reduce_ropes := df_reduce_ropes (P := l.prog) (w := w) (base := base) (K := K) (mg := mg) ⟨_, _, fun_mk (st := s_reduce_ropes) l28 c28 k28, PySem.W.mg_of X G a28⟩ B B2 D_check_fleet D_check_table D_chain_table D_is_redundant D_without_rope
  have D_missing_rope := df_missing_rope (P := l.prog) (w := w) (base := base) (K := K) (mg := mg) ⟨_, _, fun_mk (st := s_missing_rope) l29 c29 k29, PySem.W.mg_of X G a29⟩ B D_check_fleet D_check_table D_chain_table D_is_implied
  have D_rearmost_positions := df_rearmost_positions (P := l.prog) (w := w) (base := base) (K := K) (mg := mg) ⟨_, _, fun_mk (st := s_rearmost_positions) l30 c30 k30, PySem.W.mg_of X G a30⟩ B D_move_barge
  have D_counterexample := df_counterexample (P := l.prog) (w := w) (base := base) (K := K) (mg := mg) ⟨_, _, fun_mk (st := s_counterexample) l31 c31 k31, PySem.W.mg_of X G a31⟩ B D_check_fleet D_check_rope D_chain_table D_check_table D_is_implied D_rearmost_positions D_move_barge
  have D_broken_ropes := df_broken_ropes (P := l.prog) (w := w) (base := base) (K := K) (mg := mg) ⟨_, _, fun_mk (st := s_broken_ropes) l32 c32 k32, PySem.W.mg_of X G a32⟩ D_check_fleet D_check_positions D_unsatisfied_ropes
  have D_count_placings := df_count_placings (P := l.prog) (w := w) (base := base) (K := K) (mg := mg) ⟨_, _, fun_mk (st := s_count_placings) l33 c33 k33, PySem.W.mg_of X G a33⟩ B B2
  have D_count_positions := df_count_positions (P := l.prog) (w := w) (base := base) (K := K) (mg := mg) ⟨_, _, fun_mk (st := s_count_positions) l34 c34 k34, PySem.W.mg_of X G a34⟩ C_MOST_COUNTED C_FARTHEST_COUNTED D_check_fleet D_check_table D_chain_table D_is_number D_count_placings
  have D_is_pair := df_is_pair (P := l.prog) (w := w) (base := base) (K := K) (mg := mg) ⟨_, _, fun_mk (st := s_is_pair) l35 c35 k35, PySem.W.mg_of X G a35⟩ B D_is_barge
  have D_check_pairs := df_check_pairs (P := l.prog) (w := w) (base := base) (K := K) (mg := mg) ⟨_, _, fun_mk (st := s_check_pairs) l36 c36 k36, PySem.W.mg_of X G a36⟩ B D_is_pair
  have D_greatest_lead := df_greatest_lead (P := l.prog) (w := w) (base := base) (K := K) (mg := mg) ⟨_, _, fun_mk (st := s_greatest_lead) l37 c37 k37, PySem.W.mg_of X G a37⟩ B
  have D_shortest_ropes := df_shortest_ropes (P := l.prog) (w := w) (base := base) (K := K) (mg := mg) ⟨_, _, fun_mk (st := s_shortest_ropes) l38 c38 k38, PySem.W.mg_of X G a38⟩ B D_check_fleet D_check_positions D_check_pairs D_greatest_lead
  have D_law_are_alike := df_law_are_alike (P := l.prog) (w := w) (base := base) (K := K) (mg := mg) ⟨_, _, fun_mk (st := s_law_are_alike) l39 c39 k39, PySem.W.mg_of X G a39⟩ B D_chain_length D_law_taken D_haul D_count_positions
  have D_law_is_rope := df_law_is_rope (P := l.prog) (w := w) (base := base) (K := K) (mg := mg) ⟨_, _, fun_mk (st := s_law_is_rope) l40 c40 k40, PySem.W.mg_of X G a40⟩ B D_counterexample D_implied D_broken_ropes D_missing_rope D_law_are_alike D_haul D_shortest_ropes
  exact ok_law (fun_mk (st := s_law) l41 c41 k41) B D_law_taken D_law_fleet D_law_start D_reduce_ropes D_redundant_ropes D_missing_rope D_law_are_alike D_implied D_law_is_rope
theorem walk {l : PySem.W.OpenLaw} {q : Program} {loose : List Str} {XP : (Str → Option Value) → Heap → Prop} {YP : World → Heap → Prop} {d : DefRec} {K : Params → PySem.W.Frag} (hn : l.most = some 63) (hdf : d.params.defaults = [])
    (hY : ∀ (w : World) (h : Heap), YP w h → (K w.params).In h)
    (F : ∀ (w : World) (mg : Str → Option Value) (fa : Addr) (h : Heap), (K w.params).In h → h.Ns mainGlobals mg → mg d.name = some (.ref fa) →
      ∃ fd : FuncData, (∀ (s : Shared) (u : Value), BindsTo s fd ⟨[u], []⟩ [("_law_script", u)]) ∧ ∀ base : Heap, (K w.params).In base → base.Ns mainGlobals mg → FnOk l.prog w (K w.params) mg base CX0 10 fa fd ["_law_script"] (sp_law (K w.params))) :
    PySem.W.WalkO q loose XP YP l.row.toRowW d [] (fun f vs => PySem.call f vs) :=
  L2.walk_of (n := 63) (k := 10) (x := "_law_script") (CX := fun _ => CX0) (sp := fun w => sp_law (K w.params)) hn (by decide) hdf ⟨rfl, by decide, by decide⟩ hY F (fun _ _ a ns hl _ hS => ⟨a, ns, rfl, hS, Nat.le_trans hl (by decide), fun _ => rfl⟩) fun _ _ _ _ _ z => z
end Hx

set_option Elab.async false
open PySem PySem.W PyProof.Rows
set_option maxRecDepth 100000 in
set_option maxHeartbeats 0 in
theorem PySem.Challenge.cw_haulropes_k26_whole_ropes_that_are_impli_holds : PySem.Challenge.rw_haulropes_k26_whole_ropes_that_are_impli.Holds := by
  w_on; o_law; k_head; (case hw => w_witness2)
  k_fill
  refine Hx.walk (l := PySem.Challenge.rw_haulropes_k26_whole_ropes_that_are_impli) rfl rfl (fun w h Y => PySem.W.kIn_of Y) ?F
  case F =>
    intro w mg fa h KX G hmg
    refine' Hx.all_mk KX G hmg ?a0 ?l0 ?c0 ?k0 ?a1 ?l1 ?c1 ?k1 ?a2 ?l2 ?c2 ?k2 ?a3 ?l3 ?c3 ?k3 ?a4 ?l4 ?c4 ?k4 ?a5 ?l5 ?c5 ?k5 ?a6 ?l6 ?c6 ?k6 ?a7 ?l7 ?c7 ?k7 ?a8 ?l8 ?c8 ?k8 ?a9 ?l9 ?c9 ?k9 ?a10 ?l10 ?c10 ?k10 ?a11 ?l11 ?c11 ?k11 ?a12 ?l12 ?c12 ?k12 ?a13 ?l13 ?c13 ?k13 ?a14 ?l14 ?c14 ?k14 ?a15 ?l15 ?c15 ?k15 ?a16 ?l16 ?c16 ?k16 ?a17 ?l17 ?c17 ?k17 ?a18 ?l18 ?c18 ?k18 ?a19 ?l19 ?c19 ?k19 ?a20 ?l20 ?c20 ?k20 ?a21 ?l21 ?c21 ?k21 ?a22 ?l22 ?c22 ?k22 ?a23 ?l23 ?c23 ?k23 ?a24 ?l24 ?c24 ?k24 ?a25 ?l25 ?c25 ?k25 ?a26 ?l26 ?c26 ?k26 ?a27 ?l27 ?c27 ?k27 ?a28 ?l28 ?c28 ?k28 ?a29 ?l29 ?c29 ?k29 ?a30 ?l30 ?c30 ?k30 ?a31 ?l31 ?c31 ?k31 ?a32 ?l32 ?c32 ?k32 ?a33 ?l33 ?c33 ?k33 ?a34 ?l34 ?c34 ?k34 ?a35 ?l35 ?c35 ?k35 ?a36 ?l36 ?c36 ?k36 ?a37 ?l37 ?c37 ?k37 ?a38 ?l38 ?c38 ?k38 ?a39 ?l39 ?c39 ?k39 ?a40 ?l40 ?c40 ?k40 ?a41 ?l41 ?c41 ?k41 ?y0 ?y1 ?y2 ?y3 ?y4 ?y5 ?z0 ?z1 ?z2 ?z3 ?z4 ?z5 ?z6 ?z7 ?z8 ?z9 ?z10 ?z11 ?z12 ?z13 ?z14 ?z15 ?z16 ?z17
    (case a0 => k_is); (case l0 => k_is); (case c0 => k_is); (case k0 => k_is)
    (case a1 => k_is); (case l1 => k_is); (case c1 => k_is); (case k1 => k_is)
    (case a2 => k_is); (case l2 => k_is); (case c2 => k_is); (case k2 => k_is)
    (case a3 => k_is); (case l3 => k_is); (case c3 => k_is); (case k3 => k_is)
    (case a4 => k_is); (case l4 => k_is); (case c4 => k_is); (case k4 => k_is)
    (case a5 => k_is); (case l5 => k_is); (case c5 => k_is); (case k5 => k_is)
    (case a6 => k_is); (case l6 => k_is); (case c6 => k_is); (case k6 => k_is)
    (case a7 => k_is); (case l7 => k_is); (case c7 => k_is); (case k7 => k_is)
    (case a8 => k_is); (case l8 => k_is); (case c8 => k_is); (case k8 => k_is)
    (case a9 => k_is); (case l9 => k_is); (case c9 => k_is); (case k9 => k_is)
    (case a10 => k_is); (case l10 => k_is); (case c10 => k_is); (case k10 => k_is)
    (case a11 => k_is); (case l11 => k_is); (case c11 => k_is); (case k11 => k_is)
    (case a12 => k_is); (case l12 => k_is); (case c12 => k_is); (case k12 => k_is)
    (case a13 => k_is); (case l13 => k_is); (case c13 => k_is); (case k13 => k_is)
    (case a14 => k_is); (case l14 => k_is); (case c14 => k_is); (case k14 => k_is)
    (case a15 => k_is); (case l15 => k_is); (case c15 => k_is); (case k15 => k_is)
    (case a16 => k_is); (case l16 => k_is); (case c16 => k_is); (case k16 => k_is)
    (case a17 => k_is); (case l17 => k_is); (case c17 => k_is); (case k17 => k_is)
    (case a18 => k_is); (case l18 => k_is); (case c18 => k_is); (case k18 => k_is)
    (case a19 => k_is); (case l19 => k_is); (case c19 => k_is); (case k19 => k_is)
    (case a20 => k_is); (case l20 => k_is); (case c20 => k_is); (case k20 => k_is)
    (case a21 => k_is); (case l21 => k_is); (case c21 => k_is); (case k21 => k_is)
    (case a22 => k_is); (case l22 => k_is); (case c22 => k_is); (case k22 => k_is)
    (case a23 => k_is); (case l23 => k_is); (case c23 => k_is); (case k23 => k_is)
    (case a24 => k_is); (case l24 => k_is); (case c24 => k_is); (case k24 => k_is)
    (case a25 => k_is); (case l25 => k_is); (case c25 => k_is); (case k25 => k_is)
    (case a26 => k_is); (case l26 => k_is); (case c26 => k_is); (case k26 => k_is)
    (case a27 => k_is); (case l27 => k_is); (case c27 => k_is); (case k27 => k_is)
    (case a28 => k_is); (case l28 => k_is); (case c28 => k_is); (case k28 => k_is)
    (case a29 => k_is); (case l29 => k_is); (case c29 => k_is); (case k29 => k_is)
    (case a30 => k_is); (case l30 => k_is); (case c30 => k_is); (case k30 => k_is)
    (case a31 => k_is); (case l31 => k_is); (case c31 => k_is); (case k31 => k_is)
    (case a32 => k_is); (case l32 => k_is); (case c32 => k_is); (case k32 => k_is)
    (case a33 => k_is); (case l33 => k_is); (case c33 => k_is); (case k33 => k_is)
    (case a34 => k_is); (case l34 => k_is); (case c34 => k_is); (case k34 => k_is)
    (case a35 => k_is); (case l35 => k_is); (case c35 => k_is); (case k35 => k_is)
    (case a36 => k_is); (case l36 => k_is); (case c36 => k_is); (case k36 => k_is)
    (case a37 => k_is); (case l37 => k_is); (case c37 => k_is); (case k37 => k_is)
    (case a38 => k_is); (case l38 => k_is); (case c38 => k_is); (case k38 => k_is)
    (case a39 => k_is); (case l39 => k_is); (case c39 => k_is); (case k39 => k_is)
    (case a40 => k_is); (case l40 => k_is); (case c40 => k_is); (case k40 => k_is)
    (case a41 => k_is); (case l41 => k_is); (case c41 => k_is); (case k41 => k_is)
    (case y0 => k_is); (case y1 => k_is); (case y2 => k_is); (case y3 => k_is)
    (case y4 => k_is); (case y5 => k_is); (case z0 => k_is); (case z1 => k_is)
    (case z2 => k_is); (case z3 => k_is); (case z4 => k_is); (case z5 => k_is)
    (case z6 => k_is); (case z7 => k_is); (case z8 => k_is); (case z9 => k_is)
    (case z10 => k_is); (case z11 => k_is); (case z12 => k_is); (case z13 => k_is)
    (case z14 => k_is); (case z15 => k_is); (case z16 => k_is); (case z17 => k_is)
#print axioms PySem.Challenge.cw_haulropes_k26_whole_ropes_that_are_impli_holds
