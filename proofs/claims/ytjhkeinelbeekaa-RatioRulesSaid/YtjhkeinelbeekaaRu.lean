/-
  RatioRules returns true for all fractions: all ways together. Conditions: none.
-/
import Derived.Test.YtjhkeinelbeekaaRu1
import Derived.Test.YtjhkeinelbeekaaRu2
import Derived.Test.YtjhkeinelbeekaaRu3
namespace Go.Proofs.Ytjhkeinelbeekaa
open Go.RowKit
set_option maxRecDepth 100000
theorem res_same {P Q N D N' D' : Int} (hQ : Q ≠ 0) (h1 : okB N D = true) (h2 : okB N' D' = true) (e1 : N * Q = P * D) (e2 : N' * Q = P * D') : N = N' ∧ D = D' := by
  refine okB_one h1 h2 (Int.eq_of_mul_eq_mul_right hQ ?_)
  rw [Int.mul_right_comm, e1, Int.mul_right_comm N' D Q, e2]
  ac_rfl
theorem IsRes.uniq {p q p' q' N D E N' D' E' : Int} (h : IsRes p q N D E) (h' : IsRes p' q' N' D' E') (hq : q ≠ 0) (hq' : q' ≠ 0) (e : p * q' = p' * q) : N = N' ∧ D = D' ∧ E = E' := by
  have h2 := h'.congr hq' hq e.symm
  rcases h with ⟨a1, a2, a3, a4, a5⟩ | ⟨a1, a2, a3, a4⟩
  · rcases h2 with ⟨b1, b2, b3, b4, b5⟩ | ⟨b1, b2, b3, b4⟩
    · obtain ⟨r1, r2⟩ := res_same hq a2 b2 a5 b5
      exact ⟨r1, r2, by omega⟩
    · exact absurd a5 (b4 _ _ a2 a3 a4)
  · rcases h2 with ⟨b1, b2, b3, b4, b5⟩ | ⟨b1, b2, b3, b4⟩
    · exact absurd b5 (a4 _ _ b2 b3 b4)
    · exact ⟨by omega, by omega, by omega⟩
theorem not_ok00 : ¬ okB 0 0 = true := by decide
theorem Add_tot {a b c d : Int} (ha : I64 a) (hb : I64 b) (hc : I64 c) (hd : I64 d) : ∃ N D E, Pure Try.prog 17 #[ratioV a b, ratioV c d] (.tuple #[ratioV N D, .int .i64 E]) ∧ I64 N ∧ I64 D ∧
    (E = 0 → okB N D = true ∧ okB a b = true ∧ okB c d = true ∧ N * (b * d) = (a * d + c * b) * D) ∧ (¬ E = 0 → N = 0 ∧ D = 0) := by
  have z : I64 0 := by unfold I64; omega
  by_cases h : okB a b = true ∧ okB c d = true
  · obtain ⟨N, D, E, r, p⟩ := Add_res ha hb hc hd h.1 h.2
    rcases r with ⟨a1, a2, a3, a4, a5⟩ | ⟨a1, a2, a3, _⟩
    · exact ⟨N, D, E, p, a3, a4, fun _ => ⟨a2, h.1, h.2, a5⟩, fun h => absurd a1 h⟩
    · exact ⟨N, D, E, p, by rw [a2]; exact z, by rw [a3]; exact z, fun h => by omega, fun _ => ⟨a2, a3⟩⟩
  · exact ⟨0, 0, 8, add_bad ha hb hc hd h, z, z, fun h => by omega, fun _ => ⟨rfl, rfl⟩⟩
set_option maxRecDepth 100000 in
theorem mul_bad8 {a b c d : Int} (ha : I64 a) (hb : I64 b) (hc : I64 c) (hd : I64 d) (h : ¬ (okB a b = true ∧ okB c d = true)) : Pure Try.prog 19 #[ratioV a b, ratioV c d] (.tuple #[ratioV 0 0, .int .i64 8]) :=
  pure_run (args := [ratioV a b, ratioV c d]) 100 [.r (.int .i64 8), .k] (And.intro rfl (And.intro (Both_bad ha hb hc hd h) True.intro)) (by kernel_rfl)
theorem Mul_tot {a b c d : Int} (ha : I64 a) (hb : I64 b) (hc : I64 c) (hd : I64 d) : ∃ N D E, Pure Try.prog 19 #[ratioV a b, ratioV c d] (.tuple #[ratioV N D, .int .i64 E]) ∧ I64 N ∧ I64 D ∧
    (E = 0 → okB N D = true ∧ okB a b = true ∧ okB c d = true ∧ N * (b * d) = (a * c) * D) ∧ (¬ E = 0 → N = 0 ∧ D = 0) := by
  have z : I64 0 := by unfold I64; omega
  by_cases h : okB a b = true ∧ okB c d = true
  · obtain ⟨N, D, E, r, p⟩ := Mul_res ha hb hc hd h.1 h.2
    rcases r with ⟨a1, a2, a3, a4, a5⟩ | ⟨a1, a2, a3, _⟩
    · exact ⟨N, D, E, p, a3, a4, fun _ => ⟨a2, h.1, h.2, a5⟩, fun h => absurd a1 h⟩
    · exact ⟨N, D, E, p, by rw [a2]; exact z, by rw [a3]; exact z, fun h => by omega, fun _ => ⟨a2, a3⟩⟩
  · exact ⟨0, 0, 8, mul_bad8 ha hb hc hd h, z, z, fun h => by omega, fun _ => ⟨rfl, rfl⟩⟩
theorem al_add {an ad bn bd cn cd sn sd ln ld : Int} (hs : sd ≠ 0) (h1 : sn * (ad * bd) = (an * bd + bn * ad) * sd) (h2 : ln * (sd * cd) = (sn * cd + cn * sd) * ld) :
    ln * (ad * bd * cd) = (an * bd * cd + bn * ad * cd + cn * ad * bd) * ld := by
  refine Int.eq_of_mul_eq_mul_right hs ?_
  grind
theorem al_add2 {an ad bn bd cn cd un ud rn rd : Int} (hs : ud ≠ 0) (h1 : un * (bd * cd) = (bn * cd + cn * bd) * ud) (h2 : rn * (ad * ud) = (an * ud + un * ad) * rd) :
    rn * (ad * bd * cd) = (an * bd * cd + bn * ad * cd + cn * ad * bd) * rd := by
  refine Int.eq_of_mul_eq_mul_right hs ?_
  grind
theorem al_mul {an ad bn bd cn cd pn pd mn md : Int} (hs : pd ≠ 0) (h1 : pn * (ad * bd) = (an * bn) * pd) (h2 : mn * (pd * cd) = (pn * cn) * md) : mn * (ad * bd * cd) = (an * bn * cn) * md := by
  refine Int.eq_of_mul_eq_mul_right hs ?_
  grind
theorem al_mul2 {an ad bn bd cn cd vn vd nn nd : Int} (hs : vd ≠ 0) (h1 : vn * (bd * cd) = (bn * cn) * vd) (h2 : nn * (ad * vd) = (an * vn) * nd) : nn * (ad * bd * cd) = (an * bn * cn) * nd := by
  refine Int.eq_of_mul_eq_mul_right hs ?_
  grind
theorem al_both {an ad bn bd cn cd sn sd on od : Int} (hs : sd ≠ 0) (h1 : sn * (ad * bd) = (an * bd + bn * ad) * sd) (h2 : on * (sd * cd) = (sn * cn) * od) : on * (ad * bd * cd) = ((an * bd + bn * ad) * cn) * od := by
  refine Int.eq_of_mul_eq_mul_right hs ?_
  grind
theorem al_sum {an ad bn bd cn cd wn wd vn vd xn xd : Int} (hw : wd ≠ 0) (hv : vd ≠ 0) (hc : cd ≠ 0) (h1 : wn * (ad * cd) = (an * cn) * wd) (h3 : vn * (bd * cd) = (bn * cn) * vd) (h2 : xn * (wd * vd) = (wn * vd + vn * wd) * xd) :
    xn * (ad * bd * cd) = ((an * bd + bn * ad) * cn) * xd := by
  refine Int.eq_of_mul_eq_mul_right (Int.mul_ne_zero (Int.mul_ne_zero hw hv) hc) ?_
  grind
theorem nsame (a b : Int) : (!(a == a && (b == b && true))) = false := by simp
theorem rules_law {an ad bn bd cn cd : Int} (i1 : I64 an) (i2 : I64 ad) (i3 : I64 bn) (i4 : I64 bd) (i5 : I64 cn) (i6 : I64 cd) :
    Pure Try.prog 7 #[ratioV an ad, ratioV bn bd, ratioV cn cd] (.bool true) := by
  by_cases hab : okB an ad = true ∧ okB bn bd = true
  · obtain ⟨ka, kb⟩ := hab
    have h1 := RBoth_ok i1 i2 i3 i4 ka kb
    by_cases kc : okB cn cd = true
    · have h2 := RCheck_ok i5 i6 kc
      have da := okB_den ka
      have db := okB_den kb
      have dc := okB_den kc
      have qab : ad * bd ≠ 0 := Int.mul_ne_zero (by omega) (by omega)
      have qba : bd * ad ≠ 0 := Int.mul_ne_zero (by omega) (by omega)
      have qabc : ad * bd * cd ≠ 0 := Int.mul_ne_zero qab (by omega)
      have kT : ∀ {sn sd e : Int}, IsRes (an * bd + bn * ad) (ad * bd) sn sd e → Pure Try.prog 17 #[ratioV bn bd, ratioV an ad] (.tuple #[ratioV sn sd, .int .i64 e]) := by
        intro sn sd e r
        obtain ⟨N, D, E, r2, p2⟩ := Add_res i3 i4 i1 i2 kb ka
        obtain ⟨rfl, rfl, rfl⟩ := r.uniq r2 qab qba (by grind)
        exact p2
      have kQ : ∀ {sn sd e : Int}, IsRes (an * bn) (ad * bd) sn sd e → Pure Try.prog 19 #[ratioV bn bd, ratioV an ad] (.tuple #[ratioV sn sd, .int .i64 e]) := by
        intro sn sd e r
        obtain ⟨N, D, E, r2, p2⟩ := Mul_res i3 i4 i1 i2 kb ka
        obtain ⟨rfl, rfl, rfl⟩ := r.uniq r2 qab qba (by grind)
        exact p2
      obtain ⟨sn, sd, e, rS, kS⟩ := Add_res i1 i2 i3 i4 ka kb
      replace kT := kT rS
      obtain ⟨pn, pd, g, rP, kP⟩ := Mul_res i1 i2 i3 i4 ka kb
      replace kQ := kQ rP
      have z0 : I64 0 := by unfold I64; omega
      have sS : I64 sn ∧ I64 sd ∧ (e = 0 → okB sn sd = true ∧ sn * (ad * bd) = (an * bd + bn * ad) * sd) ∧ (¬ e = 0 → sn = 0 ∧ sd = 0) := by
        rcases rS with ⟨a1, a2, a3, a4, a5⟩ | ⟨a1, a2, a3, _⟩
        · exact ⟨a3, a4, fun _ => ⟨a2, a5⟩, fun h => absurd a1 h⟩
        · exact ⟨by rw [a2]; exact z0, by rw [a3]; exact z0, fun h => by omega, fun _ => ⟨a2, a3⟩⟩
      have sP : I64 pn ∧ I64 pd ∧ (g = 0 → okB pn pd = true ∧ pn * (ad * bd) = (an * bn) * pd) ∧ (¬ g = 0 → pn = 0 ∧ pd = 0) := by
        rcases rP with ⟨a1, a2, a3, a4, a5⟩ | ⟨a1, a2, a3, _⟩
        · exact ⟨a3, a4, fun _ => ⟨a2, a5⟩, fun h => absurd a1 h⟩
        · exact ⟨by rw [a2]; exact z0, by rw [a3]; exact z0, fun h => by omega, fun _ => ⟨a2, a3⟩⟩
      clear rS rP
      obtain ⟨s1, s2, s3, s4⟩ := sS
      obtain ⟨p1, p2, p3, p4⟩ := sP
      obtain ⟨un, ud, i, kU, u1, u2, u3, u4⟩ := Add_tot i3 i4 i5 i6
      obtain ⟨ln, ld, j, kL, l1, l2, l3, l4⟩ := Add_tot s1 s2 i5 i6
      obtain ⟨rn, rd, k, kR, r1, r2, r3, r4⟩ := Add_tot i1 i2 u1 u2
      obtain ⟨vn, vd, l, kV, v1, v2, v3, v4⟩ := Mul_tot i3 i4 i5 i6
      obtain ⟨mn, md, m, kM, m1, m2, m3, m4⟩ := Mul_tot p1 p2 i5 i6
      obtain ⟨nn, nd, n, kN, n1, n2, n3, n4⟩ := Mul_tot i1 i2 v1 v2
      obtain ⟨wn, wd, o, kW, w1, w2, w3, w4⟩ := Mul_tot i1 i2 i5 i6
      obtain ⟨on, od, r, kO, o1, o2, o3, o4⟩ := Mul_tot s1 s2 i5 i6
      obtain ⟨xn, xd, x, kX, x1, x2, x3, x4⟩ := Add_tot w1 w2 v1 v2
      have hss := nsame sn sd
      have hee : (e != e) = false := by simp
      have hpp := nsame pn pd
      have hgg : (g != g) = false := by simp
      have haa := nsame an ad
      have fS : e = 0 → Pure Try.prog 30 #[ratioV sn sd] (.int .i64 0) := fun h => RCheck_ok s1 s2 (s3 h).1
      have gS : ¬ e = 0 → Pure Try.prog 30 #[ratioV sn sd] (.int .i64 8) := fun h => RCheck_bad s1 s2 (by rw [(s4 h).1, (s4 h).2]; exact not_ok00)
      have fP : g = 0 → Pure Try.prog 30 #[ratioV pn pd] (.int .i64 0) := fun h => RCheck_ok p1 p2 (p3 h).1
      have gP : ¬ g = 0 → Pure Try.prog 30 #[ratioV pn pd] (.int .i64 8) := fun h => RCheck_bad p1 p2 (by rw [(p4 h).1, (p4 h).2]; exact not_ok00)
      have fB : e = 0 → Pure Try.prog 18 #[ratioV sn sd, ratioV bn bd] (.tuple #[ratioV an ad, .int .i64 0]) := by
        intro h
        obtain ⟨ks, es⟩ := s3 h
        have ds := okB_den ks
        obtain ⟨N, D, E, rr, pp⟩ := Sub_res s1 s2 i3 i4 ks kb
        obtain ⟨rfl, rfl, rfl⟩ := rr.one (Int.mul_ne_zero (by omega) (by omega)) ka i1 i2 (by
          refine Int.eq_of_mul_eq_mul_right (show bd ≠ 0 by omega) ?_
          grind)
        exact pp
      have fL : e = 0 → i = 0 → j = 0 → k = 0 → (!(ln == rn && (ld == rd && true))) = false := by
        intro h1 h2 h3 h4
        obtain ⟨ks, es⟩ := s3 h1
        obtain ⟨ku, _, _, eu⟩ := u3 h2
        obtain ⟨kl, _, _, el⟩ := l3 h3
        obtain ⟨kr, _, _, er⟩ := r3 h4
        obtain ⟨q1, q2⟩ := res_same qabc kl kr (al_add (by have := okB_den ks; omega) es el) (al_add2 (by have := okB_den ku; omega) eu er)
        subst q1 q2
        exact nsame _ _
      have fM : g = 0 → l = 0 → m = 0 → n = 0 → (!(mn == nn && (md == nd && true))) = false := by
        intro h1 h2 h3 h4
        obtain ⟨kp, ep⟩ := p3 h1
        obtain ⟨kv, _, _, ev⟩ := v3 h2
        obtain ⟨km, _, _, em⟩ := m3 h3
        obtain ⟨kn, _, _, en⟩ := n3 h4
        obtain ⟨q1, q2⟩ := res_same qabc km kn (al_mul (by have := okB_den kp; omega) ep em) (al_mul2 (by have := okB_den kv; omega) ev en)
        subst q1 q2
        exact nsame _ _
      have fX : e = 0 → l = 0 → o = 0 → r = 0 → x = 0 → (on == xn && (od == xd && true)) = true := by
        intro h1 h2 h3 h4 h5
        obtain ⟨ks, es⟩ := s3 h1
        obtain ⟨kv, _, _, ev⟩ := v3 h2
        obtain ⟨kw, _, _, ew⟩ := w3 h3
        obtain ⟨ko, _, _, eo⟩ := o3 h4
        obtain ⟨kx, _, _, ex⟩ := x3 h5
        obtain ⟨q1, q2⟩ := res_same qabc ko kx (al_both (by have := okB_den ks; omega) es eo) (al_sum (by have := okB_den kw; omega) (by have := okB_den kv; omega) (by omega) ew ev ex)
        subst q1 q2
        simp
      clear s3 s4 p3 p4 u3 u4 l3 l4 r3 r4 v3 v4 m3 m4 n3 n4 w3 w4 o3 o4 x3 x4
      by_cases z_e : e = 0
      · have eq_e : (e == 0) = true := by simpa using z_e
        have ne_e : (e != 0) = false := by simpa using z_e
        have kcs := fS z_e
        have kB := fB z_e
        by_cases z_i : i = 0
        · have eq_i : (i == 0) = true := by simpa using z_i
          have ne_i : (i != 0) = false := by simpa using z_i
          by_cases z_j : j = 0
          · have eq_j : (j == 0) = true := by simpa using z_j
            have ne_j : (j != 0) = false := by simpa using z_j
            by_cases z_k : k = 0
            · have eq_k : (k == 0) = true := by simpa using z_k
              have ne_k : (k != 0) = false := by simpa using z_k
              have hlr := fL z_e z_i z_j z_k
              by_cases z_g : g = 0
              · have eq_g : (g == 0) = true := by simpa using z_g
                have ne_g : (g != 0) = false := by simpa using z_g
                have kcp := fP z_g
                by_cases z_l : l = 0
                · have eq_l : (l == 0) = true := by simpa using z_l
                  have ne_l : (l != 0) = false := by simpa using z_l
                  by_cases z_m : m = 0
                  · have eq_m : (m == 0) = true := by simpa using z_m
                    have ne_m : (m != 0) = false := by simpa using z_m
                    by_cases z_n : n = 0
                    · have eq_n : (n == 0) = true := by simpa using z_n
                      have ne_n : (n != 0) = false := by simpa using z_n
                      have hmn := fM z_g z_l z_m z_n
                      by_cases z_o : o = 0
                      · have eq_o : (o == 0) = true := by simpa using z_o
                        have ne_o : (o != 0) = false := by simpa using z_o
                        by_cases z_r : r = 0
                        · have eq_r : (r == 0) = true := by simpa using z_r
                          have ne_r : (r != 0) = false := by simpa using z_r
                          by_cases z_x : x = 0
                          · have eq_x : (x == 0) = true := by simpa using z_x
                            have ne_x : (x != 0) = false := by simpa using z_x
                            have hox := fX z_e z_l z_o z_r z_x
                            exact ru_ok_ok_ok h1 h2 kS kT kP kQ hss hee hpp hgg kcs kcp eq_e kB haa kU kL kR eq_i eq_j eq_k hlr kV kM kN eq_g eq_l eq_m eq_n hmn kW kO kX ne_e ne_l ne_o ne_r ne_x hox
                          · have eq_x : (x == 0) = false := by simpa using z_x
                            have ne_x : (x != 0) = true := by simpa using z_x
                            exact ru_ok_ok_x h1 h2 kS kT kP kQ hss hee hpp hgg kcs kcp eq_e kB haa kU kL kR eq_i eq_j eq_k hlr kV kM kN eq_g eq_l eq_m eq_n hmn kW kO kX ne_e ne_l ne_o ne_r ne_x
                        · have eq_r : (r == 0) = false := by simpa using z_r
                          have ne_r : (r != 0) = true := by simpa using z_r
                          exact ru_ok_ok_r h1 h2 kS kT kP kQ hss hee hpp hgg kcs kcp eq_e kB haa kU kL kR eq_i eq_j eq_k hlr kV kM kN eq_g eq_l eq_m eq_n hmn kW kO kX ne_e ne_l ne_o ne_r
                      · have eq_o : (o == 0) = false := by simpa using z_o
                        have ne_o : (o != 0) = true := by simpa using z_o
                        exact ru_ok_ok_o h1 h2 kS kT kP kQ hss hee hpp hgg kcs kcp eq_e kB haa kU kL kR eq_i eq_j eq_k hlr kV kM kN eq_g eq_l eq_m eq_n hmn kW kO kX ne_e ne_l ne_o
                    · have eq_n : (n == 0) = false := by simpa using z_n
                      have ne_n : (n != 0) = true := by simpa using z_n
                      by_cases z_o : o = 0
                      · have eq_o : (o == 0) = true := by simpa using z_o
                        have ne_o : (o != 0) = false := by simpa using z_o
                        by_cases z_r : r = 0
                        · have eq_r : (r == 0) = true := by simpa using z_r
                          have ne_r : (r != 0) = false := by simpa using z_r
                          by_cases z_x : x = 0
                          · have eq_x : (x == 0) = true := by simpa using z_x
                            have ne_x : (x != 0) = false := by simpa using z_x
                            have hox := fX z_e z_l z_o z_r z_x
                            exact ru_ok_n_ok h1 h2 kS kT kP kQ hss hee hpp hgg kcs kcp eq_e kB haa kU kL kR eq_i eq_j eq_k hlr kV kM kN eq_g eq_l eq_m eq_n kW kO kX ne_e ne_l ne_o ne_r ne_x hox
                          · have eq_x : (x == 0) = false := by simpa using z_x
                            have ne_x : (x != 0) = true := by simpa using z_x
                            exact ru_ok_n_x h1 h2 kS kT kP kQ hss hee hpp hgg kcs kcp eq_e kB haa kU kL kR eq_i eq_j eq_k hlr kV kM kN eq_g eq_l eq_m eq_n kW kO kX ne_e ne_l ne_o ne_r ne_x
                        · have eq_r : (r == 0) = false := by simpa using z_r
                          have ne_r : (r != 0) = true := by simpa using z_r
                          exact ru_ok_n_r h1 h2 kS kT kP kQ hss hee hpp hgg kcs kcp eq_e kB haa kU kL kR eq_i eq_j eq_k hlr kV kM kN eq_g eq_l eq_m eq_n kW kO kX ne_e ne_l ne_o ne_r
                      · have eq_o : (o == 0) = false := by simpa using z_o
                        have ne_o : (o != 0) = true := by simpa using z_o
                        exact ru_ok_n_o h1 h2 kS kT kP kQ hss hee hpp hgg kcs kcp eq_e kB haa kU kL kR eq_i eq_j eq_k hlr kV kM kN eq_g eq_l eq_m eq_n kW kO kX ne_e ne_l ne_o
                  · have eq_m : (m == 0) = false := by simpa using z_m
                    have ne_m : (m != 0) = true := by simpa using z_m
                    by_cases z_o : o = 0
                    · have eq_o : (o == 0) = true := by simpa using z_o
                      have ne_o : (o != 0) = false := by simpa using z_o
                      by_cases z_r : r = 0
                      · have eq_r : (r == 0) = true := by simpa using z_r
                        have ne_r : (r != 0) = false := by simpa using z_r
                        by_cases z_x : x = 0
                        · have eq_x : (x == 0) = true := by simpa using z_x
                          have ne_x : (x != 0) = false := by simpa using z_x
                          have hox := fX z_e z_l z_o z_r z_x
                          exact ru_ok_m_ok h1 h2 kS kT kP kQ hss hee hpp hgg kcs kcp eq_e kB haa kU kL kR eq_i eq_j eq_k hlr kV kM kN eq_g eq_l eq_m kW kO kX ne_e ne_l ne_o ne_r ne_x hox
                        · have eq_x : (x == 0) = false := by simpa using z_x
                          have ne_x : (x != 0) = true := by simpa using z_x
                          exact ru_ok_m_x h1 h2 kS kT kP kQ hss hee hpp hgg kcs kcp eq_e kB haa kU kL kR eq_i eq_j eq_k hlr kV kM kN eq_g eq_l eq_m kW kO kX ne_e ne_l ne_o ne_r ne_x
                      · have eq_r : (r == 0) = false := by simpa using z_r
                        have ne_r : (r != 0) = true := by simpa using z_r
                        exact ru_ok_m_r h1 h2 kS kT kP kQ hss hee hpp hgg kcs kcp eq_e kB haa kU kL kR eq_i eq_j eq_k hlr kV kM kN eq_g eq_l eq_m kW kO kX ne_e ne_l ne_o ne_r
                    · have eq_o : (o == 0) = false := by simpa using z_o
                      have ne_o : (o != 0) = true := by simpa using z_o
                      exact ru_ok_m_o h1 h2 kS kT kP kQ hss hee hpp hgg kcs kcp eq_e kB haa kU kL kR eq_i eq_j eq_k hlr kV kM kN eq_g eq_l eq_m kW kO kX ne_e ne_l ne_o
                · have eq_l : (l == 0) = false := by simpa using z_l
                  have ne_l : (l != 0) = true := by simpa using z_l
                  exact ru_ok_l_l h1 h2 kS kT kP kQ hss hee hpp hgg kcs kcp eq_e kB haa kU kL kR eq_i eq_j eq_k hlr kV kM kN eq_g eq_l kW kO kX ne_e ne_l
              · have eq_g : (g == 0) = false := by simpa using z_g
                have ne_g : (g != 0) = true := by simpa using z_g
                have kcp := gP z_g
                by_cases z_l : l = 0
                · have eq_l : (l == 0) = true := by simpa using z_l
                  have ne_l : (l != 0) = false := by simpa using z_l
                  by_cases z_o : o = 0
                  · have eq_o : (o == 0) = true := by simpa using z_o
                    have ne_o : (o != 0) = false := by simpa using z_o
                    by_cases z_r : r = 0
                    · have eq_r : (r == 0) = true := by simpa using z_r
                      have ne_r : (r != 0) = false := by simpa using z_r
                      by_cases z_x : x = 0
                      · have eq_x : (x == 0) = true := by simpa using z_x
                        have ne_x : (x != 0) = false := by simpa using z_x
                        have hox := fX z_e z_l z_o z_r z_x
                        exact ru_ok_g_ok h1 h2 kS kT kP kQ hss hee hpp hgg kcs kcp eq_g eq_e kB haa kU kL kR eq_i eq_j eq_k hlr kV kM kN kW kO kX ne_e ne_l ne_o ne_r ne_x hox
                      · have eq_x : (x == 0) = false := by simpa using z_x
                        have ne_x : (x != 0) = true := by simpa using z_x
                        exact ru_ok_g_x h1 h2 kS kT kP kQ hss hee hpp hgg kcs kcp eq_g eq_e kB haa kU kL kR eq_i eq_j eq_k hlr kV kM kN kW kO kX ne_e ne_l ne_o ne_r ne_x
                    · have eq_r : (r == 0) = false := by simpa using z_r
                      have ne_r : (r != 0) = true := by simpa using z_r
                      exact ru_ok_g_r h1 h2 kS kT kP kQ hss hee hpp hgg kcs kcp eq_g eq_e kB haa kU kL kR eq_i eq_j eq_k hlr kV kM kN kW kO kX ne_e ne_l ne_o ne_r
                  · have eq_o : (o == 0) = false := by simpa using z_o
                    have ne_o : (o != 0) = true := by simpa using z_o
                    exact ru_ok_g_o h1 h2 kS kT kP kQ hss hee hpp hgg kcs kcp eq_g eq_e kB haa kU kL kR eq_i eq_j eq_k hlr kV kM kN kW kO kX ne_e ne_l ne_o
                · have eq_l : (l == 0) = false := by simpa using z_l
                  have ne_l : (l != 0) = true := by simpa using z_l
                  exact ru_ok_g_l h1 h2 kS kT kP kQ hss hee hpp hgg kcs kcp eq_g eq_e kB haa kU kL kR eq_i eq_j eq_k hlr kV kM kN kW kO kX ne_e ne_l
            · have eq_k : (k == 0) = false := by simpa using z_k
              have ne_k : (k != 0) = true := by simpa using z_k
              by_cases z_g : g = 0
              · have eq_g : (g == 0) = true := by simpa using z_g
                have ne_g : (g != 0) = false := by simpa using z_g
                have kcp := fP z_g
                by_cases z_l : l = 0
                · have eq_l : (l == 0) = true := by simpa using z_l
                  have ne_l : (l != 0) = false := by simpa using z_l
                  by_cases z_m : m = 0
                  · have eq_m : (m == 0) = true := by simpa using z_m
                    have ne_m : (m != 0) = false := by simpa using z_m
                    by_cases z_n : n = 0
                    · have eq_n : (n == 0) = true := by simpa using z_n
                      have ne_n : (n != 0) = false := by simpa using z_n
                      have hmn := fM z_g z_l z_m z_n
                      by_cases z_o : o = 0
                      · have eq_o : (o == 0) = true := by simpa using z_o
                        have ne_o : (o != 0) = false := by simpa using z_o
                        by_cases z_r : r = 0
                        · have eq_r : (r == 0) = true := by simpa using z_r
                          have ne_r : (r != 0) = false := by simpa using z_r
                          by_cases z_x : x = 0
                          · have eq_x : (x == 0) = true := by simpa using z_x
                            have ne_x : (x != 0) = false := by simpa using z_x
                            have hox := fX z_e z_l z_o z_r z_x
                            exact ru_k_ok_ok h1 h2 kS kT kP kQ hss hee hpp hgg kcs kcp eq_e kB haa kU kL kR eq_i eq_j eq_k kV kM kN eq_g eq_l eq_m eq_n hmn kW kO kX ne_e ne_l ne_o ne_r ne_x hox
                          · have eq_x : (x == 0) = false := by simpa using z_x
                            have ne_x : (x != 0) = true := by simpa using z_x
                            exact ru_k_ok_x h1 h2 kS kT kP kQ hss hee hpp hgg kcs kcp eq_e kB haa kU kL kR eq_i eq_j eq_k kV kM kN eq_g eq_l eq_m eq_n hmn kW kO kX ne_e ne_l ne_o ne_r ne_x
                        · have eq_r : (r == 0) = false := by simpa using z_r
                          have ne_r : (r != 0) = true := by simpa using z_r
                          exact ru_k_ok_r h1 h2 kS kT kP kQ hss hee hpp hgg kcs kcp eq_e kB haa kU kL kR eq_i eq_j eq_k kV kM kN eq_g eq_l eq_m eq_n hmn kW kO kX ne_e ne_l ne_o ne_r
                      · have eq_o : (o == 0) = false := by simpa using z_o
                        have ne_o : (o != 0) = true := by simpa using z_o
                        exact ru_k_ok_o h1 h2 kS kT kP kQ hss hee hpp hgg kcs kcp eq_e kB haa kU kL kR eq_i eq_j eq_k kV kM kN eq_g eq_l eq_m eq_n hmn kW kO kX ne_e ne_l ne_o
                    · have eq_n : (n == 0) = false := by simpa using z_n
                      have ne_n : (n != 0) = true := by simpa using z_n
                      by_cases z_o : o = 0
                      · have eq_o : (o == 0) = true := by simpa using z_o
                        have ne_o : (o != 0) = false := by simpa using z_o
                        by_cases z_r : r = 0
                        · have eq_r : (r == 0) = true := by simpa using z_r
                          have ne_r : (r != 0) = false := by simpa using z_r
                          by_cases z_x : x = 0
                          · have eq_x : (x == 0) = true := by simpa using z_x
                            have ne_x : (x != 0) = false := by simpa using z_x
                            have hox := fX z_e z_l z_o z_r z_x
                            exact ru_k_n_ok h1 h2 kS kT kP kQ hss hee hpp hgg kcs kcp eq_e kB haa kU kL kR eq_i eq_j eq_k kV kM kN eq_g eq_l eq_m eq_n kW kO kX ne_e ne_l ne_o ne_r ne_x hox
                          · have eq_x : (x == 0) = false := by simpa using z_x
                            have ne_x : (x != 0) = true := by simpa using z_x
                            exact ru_k_n_x h1 h2 kS kT kP kQ hss hee hpp hgg kcs kcp eq_e kB haa kU kL kR eq_i eq_j eq_k kV kM kN eq_g eq_l eq_m eq_n kW kO kX ne_e ne_l ne_o ne_r ne_x
                        · have eq_r : (r == 0) = false := by simpa using z_r
                          have ne_r : (r != 0) = true := by simpa using z_r
                          exact ru_k_n_r h1 h2 kS kT kP kQ hss hee hpp hgg kcs kcp eq_e kB haa kU kL kR eq_i eq_j eq_k kV kM kN eq_g eq_l eq_m eq_n kW kO kX ne_e ne_l ne_o ne_r
                      · have eq_o : (o == 0) = false := by simpa using z_o
                        have ne_o : (o != 0) = true := by simpa using z_o
                        exact ru_k_n_o h1 h2 kS kT kP kQ hss hee hpp hgg kcs kcp eq_e kB haa kU kL kR eq_i eq_j eq_k kV kM kN eq_g eq_l eq_m eq_n kW kO kX ne_e ne_l ne_o
                  · have eq_m : (m == 0) = false := by simpa using z_m
                    have ne_m : (m != 0) = true := by simpa using z_m
                    by_cases z_o : o = 0
                    · have eq_o : (o == 0) = true := by simpa using z_o
                      have ne_o : (o != 0) = false := by simpa using z_o
                      by_cases z_r : r = 0
                      · have eq_r : (r == 0) = true := by simpa using z_r
                        have ne_r : (r != 0) = false := by simpa using z_r
                        by_cases z_x : x = 0
                        · have eq_x : (x == 0) = true := by simpa using z_x
                          have ne_x : (x != 0) = false := by simpa using z_x
                          have hox := fX z_e z_l z_o z_r z_x
                          exact ru_k_m_ok h1 h2 kS kT kP kQ hss hee hpp hgg kcs kcp eq_e kB haa kU kL kR eq_i eq_j eq_k kV kM kN eq_g eq_l eq_m kW kO kX ne_e ne_l ne_o ne_r ne_x hox
                        · have eq_x : (x == 0) = false := by simpa using z_x
                          have ne_x : (x != 0) = true := by simpa using z_x
                          exact ru_k_m_x h1 h2 kS kT kP kQ hss hee hpp hgg kcs kcp eq_e kB haa kU kL kR eq_i eq_j eq_k kV kM kN eq_g eq_l eq_m kW kO kX ne_e ne_l ne_o ne_r ne_x
                      · have eq_r : (r == 0) = false := by simpa using z_r
                        have ne_r : (r != 0) = true := by simpa using z_r
                        exact ru_k_m_r h1 h2 kS kT kP kQ hss hee hpp hgg kcs kcp eq_e kB haa kU kL kR eq_i eq_j eq_k kV kM kN eq_g eq_l eq_m kW kO kX ne_e ne_l ne_o ne_r
                    · have eq_o : (o == 0) = false := by simpa using z_o
                      have ne_o : (o != 0) = true := by simpa using z_o
                      exact ru_k_m_o h1 h2 kS kT kP kQ hss hee hpp hgg kcs kcp eq_e kB haa kU kL kR eq_i eq_j eq_k kV kM kN eq_g eq_l eq_m kW kO kX ne_e ne_l ne_o
                · have eq_l : (l == 0) = false := by simpa using z_l
                  have ne_l : (l != 0) = true := by simpa using z_l
                  exact ru_k_l_l h1 h2 kS kT kP kQ hss hee hpp hgg kcs kcp eq_e kB haa kU kL kR eq_i eq_j eq_k kV kM kN eq_g eq_l kW kO kX ne_e ne_l
              · have eq_g : (g == 0) = false := by simpa using z_g
                have ne_g : (g != 0) = true := by simpa using z_g
                have kcp := gP z_g
                by_cases z_l : l = 0
                · have eq_l : (l == 0) = true := by simpa using z_l
                  have ne_l : (l != 0) = false := by simpa using z_l
                  by_cases z_o : o = 0
                  · have eq_o : (o == 0) = true := by simpa using z_o
                    have ne_o : (o != 0) = false := by simpa using z_o
                    by_cases z_r : r = 0
                    · have eq_r : (r == 0) = true := by simpa using z_r
                      have ne_r : (r != 0) = false := by simpa using z_r
                      by_cases z_x : x = 0
                      · have eq_x : (x == 0) = true := by simpa using z_x
                        have ne_x : (x != 0) = false := by simpa using z_x
                        have hox := fX z_e z_l z_o z_r z_x
                        exact ru_k_g_ok h1 h2 kS kT kP kQ hss hee hpp hgg kcs kcp eq_g eq_e kB haa kU kL kR eq_i eq_j eq_k kV kM kN kW kO kX ne_e ne_l ne_o ne_r ne_x hox
                      · have eq_x : (x == 0) = false := by simpa using z_x
                        have ne_x : (x != 0) = true := by simpa using z_x
                        exact ru_k_g_x h1 h2 kS kT kP kQ hss hee hpp hgg kcs kcp eq_g eq_e kB haa kU kL kR eq_i eq_j eq_k kV kM kN kW kO kX ne_e ne_l ne_o ne_r ne_x
                    · have eq_r : (r == 0) = false := by simpa using z_r
                      have ne_r : (r != 0) = true := by simpa using z_r
                      exact ru_k_g_r h1 h2 kS kT kP kQ hss hee hpp hgg kcs kcp eq_g eq_e kB haa kU kL kR eq_i eq_j eq_k kV kM kN kW kO kX ne_e ne_l ne_o ne_r
                  · have eq_o : (o == 0) = false := by simpa using z_o
                    have ne_o : (o != 0) = true := by simpa using z_o
                    exact ru_k_g_o h1 h2 kS kT kP kQ hss hee hpp hgg kcs kcp eq_g eq_e kB haa kU kL kR eq_i eq_j eq_k kV kM kN kW kO kX ne_e ne_l ne_o
                · have eq_l : (l == 0) = false := by simpa using z_l
                  have ne_l : (l != 0) = true := by simpa using z_l
                  exact ru_k_g_l h1 h2 kS kT kP kQ hss hee hpp hgg kcs kcp eq_g eq_e kB haa kU kL kR eq_i eq_j eq_k kV kM kN kW kO kX ne_e ne_l
          · have eq_j : (j == 0) = false := by simpa using z_j
            have ne_j : (j != 0) = true := by simpa using z_j
            by_cases z_g : g = 0
            · have eq_g : (g == 0) = true := by simpa using z_g
              have ne_g : (g != 0) = false := by simpa using z_g
              have kcp := fP z_g
              by_cases z_l : l = 0
              · have eq_l : (l == 0) = true := by simpa using z_l
                have ne_l : (l != 0) = false := by simpa using z_l
                by_cases z_m : m = 0
                · have eq_m : (m == 0) = true := by simpa using z_m
                  have ne_m : (m != 0) = false := by simpa using z_m
                  by_cases z_n : n = 0
                  · have eq_n : (n == 0) = true := by simpa using z_n
                    have ne_n : (n != 0) = false := by simpa using z_n
                    have hmn := fM z_g z_l z_m z_n
                    by_cases z_o : o = 0
                    · have eq_o : (o == 0) = true := by simpa using z_o
                      have ne_o : (o != 0) = false := by simpa using z_o
                      by_cases z_r : r = 0
                      · have eq_r : (r == 0) = true := by simpa using z_r
                        have ne_r : (r != 0) = false := by simpa using z_r
                        by_cases z_x : x = 0
                        · have eq_x : (x == 0) = true := by simpa using z_x
                          have ne_x : (x != 0) = false := by simpa using z_x
                          have hox := fX z_e z_l z_o z_r z_x
                          exact ru_j_ok_ok h1 h2 kS kT kP kQ hss hee hpp hgg kcs kcp eq_e kB haa kU kL kR eq_i eq_j kV kM kN eq_g eq_l eq_m eq_n hmn kW kO kX ne_e ne_l ne_o ne_r ne_x hox
                        · have eq_x : (x == 0) = false := by simpa using z_x
                          have ne_x : (x != 0) = true := by simpa using z_x
                          exact ru_j_ok_x h1 h2 kS kT kP kQ hss hee hpp hgg kcs kcp eq_e kB haa kU kL kR eq_i eq_j kV kM kN eq_g eq_l eq_m eq_n hmn kW kO kX ne_e ne_l ne_o ne_r ne_x
                      · have eq_r : (r == 0) = false := by simpa using z_r
                        have ne_r : (r != 0) = true := by simpa using z_r
                        exact ru_j_ok_r h1 h2 kS kT kP kQ hss hee hpp hgg kcs kcp eq_e kB haa kU kL kR eq_i eq_j kV kM kN eq_g eq_l eq_m eq_n hmn kW kO kX ne_e ne_l ne_o ne_r
                    · have eq_o : (o == 0) = false := by simpa using z_o
                      have ne_o : (o != 0) = true := by simpa using z_o
                      exact ru_j_ok_o h1 h2 kS kT kP kQ hss hee hpp hgg kcs kcp eq_e kB haa kU kL kR eq_i eq_j kV kM kN eq_g eq_l eq_m eq_n hmn kW kO kX ne_e ne_l ne_o
                  · have eq_n : (n == 0) = false := by simpa using z_n
                    have ne_n : (n != 0) = true := by simpa using z_n
                    by_cases z_o : o = 0
                    · have eq_o : (o == 0) = true := by simpa using z_o
                      have ne_o : (o != 0) = false := by simpa using z_o
                      by_cases z_r : r = 0
                      · have eq_r : (r == 0) = true := by simpa using z_r
                        have ne_r : (r != 0) = false := by simpa using z_r
                        by_cases z_x : x = 0
                        · have eq_x : (x == 0) = true := by simpa using z_x
                          have ne_x : (x != 0) = false := by simpa using z_x
                          have hox := fX z_e z_l z_o z_r z_x
                          exact ru_j_n_ok h1 h2 kS kT kP kQ hss hee hpp hgg kcs kcp eq_e kB haa kU kL kR eq_i eq_j kV kM kN eq_g eq_l eq_m eq_n kW kO kX ne_e ne_l ne_o ne_r ne_x hox
                        · have eq_x : (x == 0) = false := by simpa using z_x
                          have ne_x : (x != 0) = true := by simpa using z_x
                          exact ru_j_n_x h1 h2 kS kT kP kQ hss hee hpp hgg kcs kcp eq_e kB haa kU kL kR eq_i eq_j kV kM kN eq_g eq_l eq_m eq_n kW kO kX ne_e ne_l ne_o ne_r ne_x
                      · have eq_r : (r == 0) = false := by simpa using z_r
                        have ne_r : (r != 0) = true := by simpa using z_r
                        exact ru_j_n_r h1 h2 kS kT kP kQ hss hee hpp hgg kcs kcp eq_e kB haa kU kL kR eq_i eq_j kV kM kN eq_g eq_l eq_m eq_n kW kO kX ne_e ne_l ne_o ne_r
                    · have eq_o : (o == 0) = false := by simpa using z_o
                      have ne_o : (o != 0) = true := by simpa using z_o
                      exact ru_j_n_o h1 h2 kS kT kP kQ hss hee hpp hgg kcs kcp eq_e kB haa kU kL kR eq_i eq_j kV kM kN eq_g eq_l eq_m eq_n kW kO kX ne_e ne_l ne_o
                · have eq_m : (m == 0) = false := by simpa using z_m
                  have ne_m : (m != 0) = true := by simpa using z_m
                  by_cases z_o : o = 0
                  · have eq_o : (o == 0) = true := by simpa using z_o
                    have ne_o : (o != 0) = false := by simpa using z_o
                    by_cases z_r : r = 0
                    · have eq_r : (r == 0) = true := by simpa using z_r
                      have ne_r : (r != 0) = false := by simpa using z_r
                      by_cases z_x : x = 0
                      · have eq_x : (x == 0) = true := by simpa using z_x
                        have ne_x : (x != 0) = false := by simpa using z_x
                        have hox := fX z_e z_l z_o z_r z_x
                        exact ru_j_m_ok h1 h2 kS kT kP kQ hss hee hpp hgg kcs kcp eq_e kB haa kU kL kR eq_i eq_j kV kM kN eq_g eq_l eq_m kW kO kX ne_e ne_l ne_o ne_r ne_x hox
                      · have eq_x : (x == 0) = false := by simpa using z_x
                        have ne_x : (x != 0) = true := by simpa using z_x
                        exact ru_j_m_x h1 h2 kS kT kP kQ hss hee hpp hgg kcs kcp eq_e kB haa kU kL kR eq_i eq_j kV kM kN eq_g eq_l eq_m kW kO kX ne_e ne_l ne_o ne_r ne_x
                    · have eq_r : (r == 0) = false := by simpa using z_r
                      have ne_r : (r != 0) = true := by simpa using z_r
                      exact ru_j_m_r h1 h2 kS kT kP kQ hss hee hpp hgg kcs kcp eq_e kB haa kU kL kR eq_i eq_j kV kM kN eq_g eq_l eq_m kW kO kX ne_e ne_l ne_o ne_r
                  · have eq_o : (o == 0) = false := by simpa using z_o
                    have ne_o : (o != 0) = true := by simpa using z_o
                    exact ru_j_m_o h1 h2 kS kT kP kQ hss hee hpp hgg kcs kcp eq_e kB haa kU kL kR eq_i eq_j kV kM kN eq_g eq_l eq_m kW kO kX ne_e ne_l ne_o
              · have eq_l : (l == 0) = false := by simpa using z_l
                have ne_l : (l != 0) = true := by simpa using z_l
                exact ru_j_l_l h1 h2 kS kT kP kQ hss hee hpp hgg kcs kcp eq_e kB haa kU kL kR eq_i eq_j kV kM kN eq_g eq_l kW kO kX ne_e ne_l
            · have eq_g : (g == 0) = false := by simpa using z_g
              have ne_g : (g != 0) = true := by simpa using z_g
              have kcp := gP z_g
              by_cases z_l : l = 0
              · have eq_l : (l == 0) = true := by simpa using z_l
                have ne_l : (l != 0) = false := by simpa using z_l
                by_cases z_o : o = 0
                · have eq_o : (o == 0) = true := by simpa using z_o
                  have ne_o : (o != 0) = false := by simpa using z_o
                  by_cases z_r : r = 0
                  · have eq_r : (r == 0) = true := by simpa using z_r
                    have ne_r : (r != 0) = false := by simpa using z_r
                    by_cases z_x : x = 0
                    · have eq_x : (x == 0) = true := by simpa using z_x
                      have ne_x : (x != 0) = false := by simpa using z_x
                      have hox := fX z_e z_l z_o z_r z_x
                      exact ru_j_g_ok h1 h2 kS kT kP kQ hss hee hpp hgg kcs kcp eq_g eq_e kB haa kU kL kR eq_i eq_j kV kM kN kW kO kX ne_e ne_l ne_o ne_r ne_x hox
                    · have eq_x : (x == 0) = false := by simpa using z_x
                      have ne_x : (x != 0) = true := by simpa using z_x
                      exact ru_j_g_x h1 h2 kS kT kP kQ hss hee hpp hgg kcs kcp eq_g eq_e kB haa kU kL kR eq_i eq_j kV kM kN kW kO kX ne_e ne_l ne_o ne_r ne_x
                  · have eq_r : (r == 0) = false := by simpa using z_r
                    have ne_r : (r != 0) = true := by simpa using z_r
                    exact ru_j_g_r h1 h2 kS kT kP kQ hss hee hpp hgg kcs kcp eq_g eq_e kB haa kU kL kR eq_i eq_j kV kM kN kW kO kX ne_e ne_l ne_o ne_r
                · have eq_o : (o == 0) = false := by simpa using z_o
                  have ne_o : (o != 0) = true := by simpa using z_o
                  exact ru_j_g_o h1 h2 kS kT kP kQ hss hee hpp hgg kcs kcp eq_g eq_e kB haa kU kL kR eq_i eq_j kV kM kN kW kO kX ne_e ne_l ne_o
              · have eq_l : (l == 0) = false := by simpa using z_l
                have ne_l : (l != 0) = true := by simpa using z_l
                exact ru_j_g_l h1 h2 kS kT kP kQ hss hee hpp hgg kcs kcp eq_g eq_e kB haa kU kL kR eq_i eq_j kV kM kN kW kO kX ne_e ne_l
        · have eq_i : (i == 0) = false := by simpa using z_i
          have ne_i : (i != 0) = true := by simpa using z_i
          by_cases z_g : g = 0
          · have eq_g : (g == 0) = true := by simpa using z_g
            have ne_g : (g != 0) = false := by simpa using z_g
            have kcp := fP z_g
            by_cases z_l : l = 0
            · have eq_l : (l == 0) = true := by simpa using z_l
              have ne_l : (l != 0) = false := by simpa using z_l
              by_cases z_m : m = 0
              · have eq_m : (m == 0) = true := by simpa using z_m
                have ne_m : (m != 0) = false := by simpa using z_m
                by_cases z_n : n = 0
                · have eq_n : (n == 0) = true := by simpa using z_n
                  have ne_n : (n != 0) = false := by simpa using z_n
                  have hmn := fM z_g z_l z_m z_n
                  by_cases z_o : o = 0
                  · have eq_o : (o == 0) = true := by simpa using z_o
                    have ne_o : (o != 0) = false := by simpa using z_o
                    by_cases z_r : r = 0
                    · have eq_r : (r == 0) = true := by simpa using z_r
                      have ne_r : (r != 0) = false := by simpa using z_r
                      by_cases z_x : x = 0
                      · have eq_x : (x == 0) = true := by simpa using z_x
                        have ne_x : (x != 0) = false := by simpa using z_x
                        have hox := fX z_e z_l z_o z_r z_x
                        exact ru_i_ok_ok h1 h2 kS kT kP kQ hss hee hpp hgg kcs kcp eq_e kB haa kU kL kR eq_i kV kM kN eq_g eq_l eq_m eq_n hmn kW kO kX ne_e ne_l ne_o ne_r ne_x hox
                      · have eq_x : (x == 0) = false := by simpa using z_x
                        have ne_x : (x != 0) = true := by simpa using z_x
                        exact ru_i_ok_x h1 h2 kS kT kP kQ hss hee hpp hgg kcs kcp eq_e kB haa kU kL kR eq_i kV kM kN eq_g eq_l eq_m eq_n hmn kW kO kX ne_e ne_l ne_o ne_r ne_x
                    · have eq_r : (r == 0) = false := by simpa using z_r
                      have ne_r : (r != 0) = true := by simpa using z_r
                      exact ru_i_ok_r h1 h2 kS kT kP kQ hss hee hpp hgg kcs kcp eq_e kB haa kU kL kR eq_i kV kM kN eq_g eq_l eq_m eq_n hmn kW kO kX ne_e ne_l ne_o ne_r
                  · have eq_o : (o == 0) = false := by simpa using z_o
                    have ne_o : (o != 0) = true := by simpa using z_o
                    exact ru_i_ok_o h1 h2 kS kT kP kQ hss hee hpp hgg kcs kcp eq_e kB haa kU kL kR eq_i kV kM kN eq_g eq_l eq_m eq_n hmn kW kO kX ne_e ne_l ne_o
                · have eq_n : (n == 0) = false := by simpa using z_n
                  have ne_n : (n != 0) = true := by simpa using z_n
                  by_cases z_o : o = 0
                  · have eq_o : (o == 0) = true := by simpa using z_o
                    have ne_o : (o != 0) = false := by simpa using z_o
                    by_cases z_r : r = 0
                    · have eq_r : (r == 0) = true := by simpa using z_r
                      have ne_r : (r != 0) = false := by simpa using z_r
                      by_cases z_x : x = 0
                      · have eq_x : (x == 0) = true := by simpa using z_x
                        have ne_x : (x != 0) = false := by simpa using z_x
                        have hox := fX z_e z_l z_o z_r z_x
                        exact ru_i_n_ok h1 h2 kS kT kP kQ hss hee hpp hgg kcs kcp eq_e kB haa kU kL kR eq_i kV kM kN eq_g eq_l eq_m eq_n kW kO kX ne_e ne_l ne_o ne_r ne_x hox
                      · have eq_x : (x == 0) = false := by simpa using z_x
                        have ne_x : (x != 0) = true := by simpa using z_x
                        exact ru_i_n_x h1 h2 kS kT kP kQ hss hee hpp hgg kcs kcp eq_e kB haa kU kL kR eq_i kV kM kN eq_g eq_l eq_m eq_n kW kO kX ne_e ne_l ne_o ne_r ne_x
                    · have eq_r : (r == 0) = false := by simpa using z_r
                      have ne_r : (r != 0) = true := by simpa using z_r
                      exact ru_i_n_r h1 h2 kS kT kP kQ hss hee hpp hgg kcs kcp eq_e kB haa kU kL kR eq_i kV kM kN eq_g eq_l eq_m eq_n kW kO kX ne_e ne_l ne_o ne_r
                  · have eq_o : (o == 0) = false := by simpa using z_o
                    have ne_o : (o != 0) = true := by simpa using z_o
                    exact ru_i_n_o h1 h2 kS kT kP kQ hss hee hpp hgg kcs kcp eq_e kB haa kU kL kR eq_i kV kM kN eq_g eq_l eq_m eq_n kW kO kX ne_e ne_l ne_o
              · have eq_m : (m == 0) = false := by simpa using z_m
                have ne_m : (m != 0) = true := by simpa using z_m
                by_cases z_o : o = 0
                · have eq_o : (o == 0) = true := by simpa using z_o
                  have ne_o : (o != 0) = false := by simpa using z_o
                  by_cases z_r : r = 0
                  · have eq_r : (r == 0) = true := by simpa using z_r
                    have ne_r : (r != 0) = false := by simpa using z_r
                    by_cases z_x : x = 0
                    · have eq_x : (x == 0) = true := by simpa using z_x
                      have ne_x : (x != 0) = false := by simpa using z_x
                      have hox := fX z_e z_l z_o z_r z_x
                      exact ru_i_m_ok h1 h2 kS kT kP kQ hss hee hpp hgg kcs kcp eq_e kB haa kU kL kR eq_i kV kM kN eq_g eq_l eq_m kW kO kX ne_e ne_l ne_o ne_r ne_x hox
                    · have eq_x : (x == 0) = false := by simpa using z_x
                      have ne_x : (x != 0) = true := by simpa using z_x
                      exact ru_i_m_x h1 h2 kS kT kP kQ hss hee hpp hgg kcs kcp eq_e kB haa kU kL kR eq_i kV kM kN eq_g eq_l eq_m kW kO kX ne_e ne_l ne_o ne_r ne_x
                  · have eq_r : (r == 0) = false := by simpa using z_r
                    have ne_r : (r != 0) = true := by simpa using z_r
                    exact ru_i_m_r h1 h2 kS kT kP kQ hss hee hpp hgg kcs kcp eq_e kB haa kU kL kR eq_i kV kM kN eq_g eq_l eq_m kW kO kX ne_e ne_l ne_o ne_r
                · have eq_o : (o == 0) = false := by simpa using z_o
                  have ne_o : (o != 0) = true := by simpa using z_o
                  exact ru_i_m_o h1 h2 kS kT kP kQ hss hee hpp hgg kcs kcp eq_e kB haa kU kL kR eq_i kV kM kN eq_g eq_l eq_m kW kO kX ne_e ne_l ne_o
            · have eq_l : (l == 0) = false := by simpa using z_l
              have ne_l : (l != 0) = true := by simpa using z_l
              exact ru_i_l_l h1 h2 kS kT kP kQ hss hee hpp hgg kcs kcp eq_e kB haa kU kL kR eq_i kV kM kN eq_g eq_l kW kO kX ne_e ne_l
          · have eq_g : (g == 0) = false := by simpa using z_g
            have ne_g : (g != 0) = true := by simpa using z_g
            have kcp := gP z_g
            by_cases z_l : l = 0
            · have eq_l : (l == 0) = true := by simpa using z_l
              have ne_l : (l != 0) = false := by simpa using z_l
              by_cases z_o : o = 0
              · have eq_o : (o == 0) = true := by simpa using z_o
                have ne_o : (o != 0) = false := by simpa using z_o
                by_cases z_r : r = 0
                · have eq_r : (r == 0) = true := by simpa using z_r
                  have ne_r : (r != 0) = false := by simpa using z_r
                  by_cases z_x : x = 0
                  · have eq_x : (x == 0) = true := by simpa using z_x
                    have ne_x : (x != 0) = false := by simpa using z_x
                    have hox := fX z_e z_l z_o z_r z_x
                    exact ru_i_g_ok h1 h2 kS kT kP kQ hss hee hpp hgg kcs kcp eq_g eq_e kB haa kU kL kR eq_i kV kM kN kW kO kX ne_e ne_l ne_o ne_r ne_x hox
                  · have eq_x : (x == 0) = false := by simpa using z_x
                    have ne_x : (x != 0) = true := by simpa using z_x
                    exact ru_i_g_x h1 h2 kS kT kP kQ hss hee hpp hgg kcs kcp eq_g eq_e kB haa kU kL kR eq_i kV kM kN kW kO kX ne_e ne_l ne_o ne_r ne_x
                · have eq_r : (r == 0) = false := by simpa using z_r
                  have ne_r : (r != 0) = true := by simpa using z_r
                  exact ru_i_g_r h1 h2 kS kT kP kQ hss hee hpp hgg kcs kcp eq_g eq_e kB haa kU kL kR eq_i kV kM kN kW kO kX ne_e ne_l ne_o ne_r
              · have eq_o : (o == 0) = false := by simpa using z_o
                have ne_o : (o != 0) = true := by simpa using z_o
                exact ru_i_g_o h1 h2 kS kT kP kQ hss hee hpp hgg kcs kcp eq_g eq_e kB haa kU kL kR eq_i kV kM kN kW kO kX ne_e ne_l ne_o
            · have eq_l : (l == 0) = false := by simpa using z_l
              have ne_l : (l != 0) = true := by simpa using z_l
              exact ru_i_g_l h1 h2 kS kT kP kQ hss hee hpp hgg kcs kcp eq_g eq_e kB haa kU kL kR eq_i kV kM kN kW kO kX ne_e ne_l
      · have eq_e : (e == 0) = false := by simpa using z_e
        have ne_e : (e != 0) = true := by simpa using z_e
        have kcs := gS z_e
        by_cases z_g : g = 0
        · have eq_g : (g == 0) = true := by simpa using z_g
          have ne_g : (g != 0) = false := by simpa using z_g
          have kcp := fP z_g
          by_cases z_l : l = 0
          · have eq_l : (l == 0) = true := by simpa using z_l
            have ne_l : (l != 0) = false := by simpa using z_l
            by_cases z_m : m = 0
            · have eq_m : (m == 0) = true := by simpa using z_m
              have ne_m : (m != 0) = false := by simpa using z_m
              by_cases z_n : n = 0
              · have eq_n : (n == 0) = true := by simpa using z_n
                have ne_n : (n != 0) = false := by simpa using z_n
                have hmn := fM z_g z_l z_m z_n
                exact ru_e_ok_e h1 h2 kS kT kP kQ hss hee hpp hgg kcs eq_e kcp kU kL kR kV kM kN eq_g eq_l eq_m eq_n hmn kW kO kX ne_e
              · have eq_n : (n == 0) = false := by simpa using z_n
                have ne_n : (n != 0) = true := by simpa using z_n
                exact ru_e_n_e h1 h2 kS kT kP kQ hss hee hpp hgg kcs eq_e kcp kU kL kR kV kM kN eq_g eq_l eq_m eq_n kW kO kX ne_e
            · have eq_m : (m == 0) = false := by simpa using z_m
              have ne_m : (m != 0) = true := by simpa using z_m
              exact ru_e_m_e h1 h2 kS kT kP kQ hss hee hpp hgg kcs eq_e kcp kU kL kR kV kM kN eq_g eq_l eq_m kW kO kX ne_e
          · have eq_l : (l == 0) = false := by simpa using z_l
            have ne_l : (l != 0) = true := by simpa using z_l
            exact ru_e_l_e h1 h2 kS kT kP kQ hss hee hpp hgg kcs eq_e kcp kU kL kR kV kM kN eq_g eq_l kW kO kX ne_e
        · have eq_g : (g == 0) = false := by simpa using z_g
          have ne_g : (g != 0) = true := by simpa using z_g
          have kcp := gP z_g
          exact ru_e_g_e h1 h2 kS kT kP kQ hss hee hpp hgg kcs eq_e kcp eq_g kU kL kR kV kM kN kW kO kX ne_e
    · exact ru_c h1 (RCheck_bad i5 i6 kc)
  · exact ru_both (RBoth_bad i1 i2 i3 i4 hab)
end Go.Proofs.Ytjhkeinelbeekaa
