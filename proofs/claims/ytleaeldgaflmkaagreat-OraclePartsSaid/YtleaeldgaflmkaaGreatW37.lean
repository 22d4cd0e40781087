/-
  Joined: Fn, Fs, Ft, Gb0, Fu. Conditions: none.
-/
import Derived.Test.YtleaeldgaflmkaaGreatW35
import Derived.Test.YtleaeldgaflmkaaGreatW33
import Derived.Test.YtleaeldgaflmkaaGreatW25
import Derived.Test.YtleaeldgaflmkaaGreatW36
import Derived.Test.YtleaeldgaflmkaaGreatW34
import Derived.Test.YtleaeldgaflmkaaGreatW31
import Derived.Shelf.SlSortCmp.WholeK
import Derived.Test.YtleaeldgaflmkaaGreatProg
import Derived.Shelf.SlLaysF0
import Derived.Shelf.SlSortCmp.NoneTotal
namespace Go.Proofs.YtleaeldgaflmkaaGreat
set_option maxRecDepth 100000
open Go.RowKit
theorem qn0 (l:List Pt):(¬ (l.length≤16∨64≤l.length∧l.length≤70)∧Fn 20 1 [qap 0 l] [(0,0,qad l)] (.pv (.bool true)) 0 [])∨
 ((l.length≤16∨64≤l.length∧l.length≤70)∧Fn 20 1 [qap 0 l] [(0,0,qad l)] (.pv (.bool false)) 0 []):=by
 by_cases h1:l.length>16
 ·by_cases h2:l.length<64
  ·exact Or.inl ⟨by omega,qtS (dt (by omega)) (dt (by omega))⟩
  ·by_cases h3:l.length>70
   ·exact Or.inl ⟨by omega,qrd (dt (by omega)) (df (by omega)) (dt (by omega))⟩
   ·exact Or.inr ⟨by omega,qqY (dt (by omega)) (df (by omega)) (df (by omega))⟩
 ·exact Or.inr ⟨by omega,qsq (df (by omega)) (df (by omega))⟩
theorem qjB {l:List Pt} (hn:l.length≤1000000):Fn 47 1 [qap 0 l] [(0,0,qad l)] (.ag [.ls 1 l.length]) 1 [(1,0,qad l)]:=qoC (by omega)
abbrev qxL (f:FuncId) (l:List Pt) (id:Int) (p:Pt) (e:Int):Prop:=Fn f 1 [qap 0 l,.pv (iV id)] [(0,0,qad l)] (.pv (.tuple #[ptV p,iV e])) 0 []
abbrev woT (id:Int) (k:Nat):List (Nat×SV):=[(1,.pv (iV id)),(2,.pp 1 0),(4,.pp 2 0),(5,.pp 3 0),(6,.pv (iV (k:Int)))]
abbrev woH (l m:List Pt):List (Nat×Nat×SV):=[(1,0,.ls 0 l.length),(0,0,qad l),(3,0,.ls 4 m.length),(4,0,qad m),(2,0,.pv (.slice none 0 0))]
theorem qft {α:Type} {l:List α} {k:Nat} {p:α} (h:l[k]?=some p):l.take (k+1)=l.take k++[p]:=by rw[List.take_add_one,h];rfl
theorem qit {l:List Pt} (hn:l.length≤64) (id:Int):Fn 129 1 [qap 0 l,.pv (iV id)] [(0,0,qad l)] (.ag [.ls 1 (l.filter fun p=>decide (p.id≠id)).length]) 1 [(1,0,qad (l.filter fun p=>decide (p.id≠id)))]:=by
 refine qsO (RunsL.rounds (woT id) (fun k=>woH l ((l.take k).filter fun p=>decide (p.id≠id))) l.length 0 (Nat.zero_add _) (fun k _ hk r=>?_) ?_)
 ·obtain⟨p,hp⟩:=qal hk
  rw[qft hp,List.filter_append] at r
  by_cases he:p.id=id
  ·have:List.filter (fun p=>decide (p.id≠id)) [p]=[]:=by simp[he]
   rw[this,List.append_nil] at r
   exact quk hp (qaA hk) (dt (by omega)) (by simp[he]) (qeV hk hn) r
  ·have:List.filter (fun p=>decide (p.id≠id)) [p]=[p]:=by simp[he]
   rw[this] at r
   refine qtf hp (qaA hk) (dt (by omega)) (by simp[he]) ?_ (qeV hk hn) r
   have:=List.length_filter_le (fun p:Pt=>decide (p.id≠id)) (l.take k)
   rw[List.length_take] at this
   omega
 ·simp only[List.take_length]
  exact qwg (df (by omega))
theorem qnD {l:List Pt} (hv:Val l) {k:Nat} {p:Pt} (hk:l[k]?=some p):(l.filter fun q=>decide (q.id≠p.id))=l.take k++l.drop (k+1):=by
 have hl:=qaw hk
 have e:l=l.take k++p::l.drop (k+1):=by
  conv=>lhs;rw[← List.take_append_drop k l]
  rw[List.drop_eq_getElem_cons hl]
  have:l[k]=p:=by rw[List.getElem?_eq_getElem hl] at hk;exact Option.some.inj hk
  rw[this]
 conv=>lhs;rw[e]
 rw[List.filter_append,List.filter_cons_of_neg (by simp)]
 congr 1
 ·refine List.filter_eq_self.2 fun q hq=>?_
  obtain⟨j,hj,rfl⟩:=List.getElem_of_mem hq
  have hjk:j<k:=by rw[List.length_take] at hj;omega
  have h2:l[j]?=some ((l.take k)[j]):=by rw[List.getElem_take];exact List.getElem?_eq_getElem _
  have:=hv.up.mono hjk h2 hk
  exact decide_eq_true (fun e=>by omega)
 ·refine List.filter_eq_self.2 fun q hq=>?_
  obtain⟨j,hj,rfl⟩:=List.getElem_of_mem hq
  have h2:l[k+1+j]?=some ((l.drop (k+1))[j]):=by rw[List.getElem_drop];exact List.getElem?_eq_getElem _
  have:=hv.up.mono (show k<k+1+j by omega) hk h2
  exact decide_eq_true (fun e=>by omega)
abbrev qlp (f:FuncId) (l:List Pt) (x:Value) (e:Int):Prop:=Fn f 1 [qap 0 l,.pv x] [(0,0,qad l)] (.pv (.tuple #[.agg #[.slice none 0 0],iV e])) 0 []
abbrev qfl (f:FuncId) (l:List Pt) (x:Value) (m:List Pt):Prop:=Fn f 1 [qap 0 l,.pv x] [(0,0,qad l)] (.tu [.ag [.ls 1 m.length],.one (.pv (iV 0))]) 1 [(1,0,qad m)]
theorem qbu {a b c:Int} (h:a+b=c) (h0:0≤c) (h1:c≤1000000):iV (IntKind.i64.wrap (a+b))=iV c:=by rw[h,qah (by omega) (by omega)]
theorem qgO {s:Int} (h0:0<s) (h1:s≤1000000):Fn 148 0 [.pv (.slice none 0 0),.pv (iV s)] [] (.ls 0 0) 1 [(0,0,qad ([]:List Pt))]:=
 qxS (df (by omega)) (by rw[Int.sub_zero,qah (by omega) (by omega)]) (dt (by omega)) (by omega) h1
theorem qoE:Fn 148 0 [.pv (.slice none 0 0),.pv (iV 0)] [] (.pv (.slice none 0 0)) 0 []:=
 qvj (df (by omega)) (by rw[Int.sub_zero,qah (by omega) (by omega)]) (df (by omega))
theorem qql (l:List Pt) (id:Int):(∃ e,qlp 96 l (iV id) e∧qlp 108 l (iV id) e∧((qcj l≠0∧e=qcj l)∨(Val l∧(∀ p∈l,p.id≠id)∧e=6)))∨
 (∃ k p,Val l∧l[k]?=some p∧p.id=id∧qfl 96 l (iV id) (l.take k++l.drop (k+1))∧qfl 108 l (iV id) (l.take k++l.drop (k+1))):=by
 by_cases h0:qcj l=0
 ·have hv:=qbI.1 h0
  have c1:=qaO l
  have c2:=qbd l
  rw[h0] at c1 c2
  rcases place l hv id with ⟨k,p,hk,he⟩ | ⟨hno,k,hkl,hlo,hhi⟩
  ·refine Or.inr ⟨k,p,hv,hk,he,?_,?_⟩
   ·have hl:=qaw hk
    have hn:=hv.len
    by_cases h1:l.length=1
    ·exact qmk (s1:=0) (s2:=0) (by omega) (by omega) c1 (qcY hv hk he) (by rw[qah (by omega) (by omega)];rfl) (qbu (by omega) (by omega) (by omega)) (df (by omega)) (qbu (by omega) (by omega) (by omega)) (df (by omega)) qoE (by omega) (by omega)
    ·exact qoP (s1:=(k:Int)) (s2:=(l.length:Int)-1) (by omega) (by omega) c1 (qcY hv hk he) (by rw[qah (by omega) (by omega)];rfl) (qbu (by omega) (by omega) (by omega)) (df (by omega)) (qbu (by omega) (by omega) (by omega)) (df (by omega)) (qgO (by omega) (by omega)) (by omega) (by omega)
   ·have hw:=qit hv.len id
    rw[← he,qnD hv hk,he] at hw
    exact qof c2 (qjP hv hk he) (df (by omega)) hw
  ·exact Or.inl ⟨6,qq9 c1 (qgZ hv hkl hlo hhi),qpN c2 (qqF hv.len hno),Or.inr ⟨hv,hno,rfl⟩⟩
 ·exact Or.inl ⟨qcj l,qmZ (qaO l) (by simp[h0]),qob (qbd l) (by simp[h0]),Or.inl ⟨h0,rfl⟩⟩
theorem qoO (l:List Pt) (pi pa pb:Int):Fn 116 1 [qap 0 l,.pv (qab pi pa pb)] [(0,0,qad l)] (.pv (iV (if qcj l=0 then (if okP pi pa pb then 0 else 8) else qcj l))) 0 []:=by
 by_cases h0:qcj l=0
 ·have c1:=qaO l
  rw[h0] at c1
  rw[if_pos h0]
  by_cases hp:okP pi pa pb=true
  ·rw[if_pos hp];exact qrs c1 (qa0 hp)
  ·rw[if_neg hp];exact qrs c1 (qfr hp)
 ·rw[if_neg h0]
  exact qtb (qaO l) (by simp[h0])
theorem qri {l:List Pt} {k:Nat} (h:k<l.length) (p:Pt):l.set k p=l.take k++p::l.drop (k+1):=by rw[List.set_eq_take_append_cons_drop,if_pos h]
theorem qkw (l:List Pt) (pi pa pb:Int):(∃ e,qlp 97 l (qab pi pa pb) e∧qlp 109 l (qab pi pa pb) e∧((qcj l≠0∧e=qcj l)∨(Val l∧¬ okP pi pa pb=true∧e=8)∨(Val l∧okP pi pa pb=true∧(∀ p∈l,p.id≠pi)∧e=6)))∨
 (∃ k p,Val l∧okP pi pa pb=true∧l[k]?=some p∧p.id=pi∧qfl 97 l (qab pi pa pb) (l.set k ⟨pi,pa,pb⟩)∧qfl 109 l (qab pi pa pb) (l.set k ⟨pi,pa,pb⟩)):=by
 have cw:=qoO l pi pa pb
 by_cases h0:qcj l=0
 ·have hv:=qbI.1 h0
  have c2:=qbd l
  rw[h0] at c2
  rw[if_pos h0] at cw
  by_cases hp:okP pi pa pb=true
  ·rw[if_pos hp] at cw
   rcases place l hv pi with ⟨k,p,hk,he⟩ | ⟨hno,k,hkl,hlo,hhi⟩
   ·have hl:=qaw hk
    have hn:=hv.len
    refine Or.inr ⟨k,p,hv,hp,hk,he,?_,qiK c2 (qaW hp) (qjP hv hk he) (df (by omega)) (qjB (by omega)) (qaA hl) hl⟩
    rw[qri hl]
    exact qio (s1:=(k:Int)) (s2:=(k:Int)+1) (s3:=(l.length:Int)) (by omega) (by omega) cw (qcY hv hk he) (by rw[qah (by omega) (by omega)];rfl) (qbu (by omega) (by omega) (by omega)) (df (by omega)) (qbu (by omega) (by omega) (by omega)) (df (by omega)) (qbu (by omega) (by omega) (by omega)) (df (by omega)) (qgO (by omega) (by omega)) (by omega) (by omega) (by omega)
   ·exact Or.inl ⟨6,qlC cw (qgZ hv hkl hlo hhi),qlx c2 (qaW hp) (qqF hv.len hno),Or.inr (Or.inr ⟨hv,hp,hno,rfl⟩)⟩
  ·rw[if_neg hp] at cw
   exact Or.inl ⟨8,qfo cw (by decide),qi0 c2 (qcN hp),Or.inr (Or.inl ⟨hv,hp,rfl⟩)⟩
 ·rw[if_neg h0] at cw
  exact Or.inl ⟨qcj l,qfo cw (by simp[h0]),qiJ (qbd l) (by simp[h0]),Or.inl ⟨h0,rfl⟩⟩
abbrev puT (b:Bool) (k:Nat):List (Nat×SV):=[(2,.pp 1 0),(3,.pp 2 0),(4,.pp 3 0),(7,.pp 4 0),(8,.pv (.bool b)),(9,.pv (iV (k:Int)))]
abbrev puH (l m:List Pt) (pi pa pb:Int):List (Nat×Nat×SV):=[(1,0,.ls 0 l.length),(0,0,qad l),(2,0,.pv (iV pi)),(2,1,.pv (iV pa)),(2,2,.pv (iV pb)),(3,0,.pv (.slice none 0 0)),(4,0,.ls 5 m.length),(5,0,qad m)]
theorem quf {l:List Pt} (hv:Val l) (hn:l.length<64) {pi pa pb:Int} (hp:okP pi pa pb=true) (hno:∀ p∈l,p.id≠pi) {k:Nat} (hkl:k≤l.length) (hlo:∀ (t:Nat) (p:Pt),t<k→l[t]?=some p→p.id<pi) (hhi:∀ (t:Nat) (p:Pt),k≤t→l[t]?=some p→pi<p.id) :
 qfl 107 l (qab pi pa pb) (l.take k++⟨pi,pa,pb⟩::l.drop k):=by
 have c2:=qbd l
 rw[qbI.2 hv] at c2
 have a:=qqF hv.len hno
 have h64:((l.length:Int)==64)=false:=by simp;omega
 have first:∀ {e:Exit} {tm2:TmL} {hp2:HpL},Rl 1 1 107 0 76 6 (puT false k) (puH l (l.take k) pi pa pb) e tm2 hp2→
  Rl 1 1 107 0 76 6 (puT false 0) (puH l [] pi pa pb) e tm2 hp2:=by
  intro e tm2 hp2 last
  refine RunsL.rounds (puT false) (fun j=>puH l (l.take j) pi pa pb) k 0 (Nat.zero_add _) (fun j _ hj r=>?_) last
  obtain⟨q,hq⟩:=qal (l:=l) (k:=j) (by omega)
  rw[qft hq] at r
  exact qwI hq (qaA (qaw hq)) (by rw[List.length_take];omega) (dt (by omega)) (df (by have:=hlo j q hj hq;omega)) (qeV (qaw hq) hv.len) r
 by_cases hk:k<l.length
 ·obtain⟨q,hq⟩:=qal hk
  refine ql4 c2 (qaW hp) a h64 (first ?_)
  have hacc:∀ j,(l.take k++[(⟨pi,pa,pb⟩:Pt)]++(l.drop k).take j).length≤65:=by intro j;simp only[List.length_append,List.length_take,List.length_drop,List.length_cons,List.length_nil];omega
  have hrest:Rl 1 1 107 0 76 6 (puT true (k+1)) (puH l (l.take k++[(⟨pi,pa,pb⟩:Pt)]++[q]) pi pa pb) (.exit 0) [(3,.pp 2 0),(4,.pp 3 0),(7,.pp 4 0),(8,.pv (.bool true))] (puH l (l.take k++⟨pi,pa,pb⟩::l.drop k) pi pa pb):=by
   have hq1:(l.drop k).take 1=[q]:=by
    rw[List.drop_eq_getElem_cons hk];have:l[k]=q:=by rw[List.getElem?_eq_getElem hk] at hq;exact Option.some.inj hq
    rw[this];rfl
   rw[← hq1]
   refine RunsL.rounds (puT true) (fun j=>puH l (l.take k++[(⟨pi,pa,pb⟩:Pt)]++(l.drop k).take (j-k)) pi pa pb) (N:=l.length) (l.length-(k+1)) (k+1) (by omega) (fun j h1 hj r=>?_) ?_ |> fun h=>by simpa using h
   ·obtain⟨y,hy⟩:=qal hj
    have hd:(l.drop k)[j-k]?=some y:=by rw[List.getElem?_drop,show k+(j-k)=j by omega];exact hy
    rw[show j+1-k=(j-k)+1 by omega,qft hd,← List.append_assoc] at r
    exact qvA hy (qaA hj) (by have:=hacc (j-k);omega) (dt (by omega)) (qeV hj hv.len) r
   ·have:(l.drop k).take (l.length-k)=l.drop k:=List.take_of_length_le (by simp)
    simp only[this]
    rw[show l.take k++[(⟨pi,pa,pb⟩:Pt)]++l.drop k=l.take k++⟨pi,pa,pb⟩::l.drop k by simp]
    exact qq2 (df (by omega))
  exact qvs hq (qaA hk) (by rw[List.length_take];omega) (dt (by omega)) (dt (by have:=hhi k q (Nat.le_refl _) hq;omega)) (by rw[List.length_take];omega) (qeV hk hv.len) hrest
 ·have hk':k=l.length:=by omega
  subst hk'
  rw[List.drop_length]
  refine ql3 c2 (qaW hp) a h64 (first (qqc (df (by omega)))) (by rw[List.length_take];omega)
theorem qtA (l:List Pt) (pi pa pb:Int):(∃ e,qlp 95 l (qab pi pa pb) e∧qlp 107 l (qab pi pa pb) e∧((qcj l≠0∧e=qcj l)∨(Val l∧¬ okP pi pa pb=true∧e=8)∨(Val l∧okP pi pa pb=true∧(∃ p∈l,p.id=pi)∧e=14)∨(Val l∧okP pi pa pb=true∧(∀ p∈l,p.id≠pi)∧l.length=64∧e=18)))∨
 (∃ k,Val l∧okP pi pa pb=true∧l.length<64∧(∀ p∈l,p.id≠pi)∧k≤l.length∧(∀ (t:Nat) (p:Pt),t<k→l[t]?=some p→p.id<pi)∧(∀ (t:Nat) (p:Pt),k≤t→l[t]?=some p→pi<p.id)∧
  qfl 95 l (qab pi pa pb) (l.take k++⟨pi,pa,pb⟩::l.drop k)∧qfl 107 l (qab pi pa pb) (l.take k++⟨pi,pa,pb⟩::l.drop k)):=by
 have cw:=qoO l pi pa pb
 by_cases h0:qcj l=0
 ·have hv:=qbI.1 h0
  have c2:=qbd l
  rw[h0] at c2
  rw[if_pos h0] at cw
  by_cases hp:okP pi pa pb=true
  ·rw[if_pos hp] at cw
   rcases place l hv pi with ⟨k,p,hk,he⟩ | ⟨hno,k,hkl,hlo,hhi⟩
   ·exact Or.inl ⟨14,qkx cw (qcY hv hk he),qlj c2 (qaW hp) (qjP hv hk he) (dt (by omega)),Or.inr (Or.inr (Or.inl ⟨hv,hp,⟨p,List.mem_of_getElem? hk,he⟩,rfl⟩))⟩
   ·have hn:=hv.len
    by_cases h64:l.length=64
    ·exact Or.inl ⟨18,qn9 cw (qgZ hv hkl hlo hhi) (by simp[h64]),qn6 c2 (qaW hp) (qqF hv.len hno) (by simp[h64]),Or.inr (Or.inr (Or.inr ⟨hv,hp,hno,h64,rfl⟩))⟩
    ·refine Or.inr ⟨k,hv,hp,by omega,hno,hkl,hlo,hhi,?_,quf hv (by omega) hp hno hkl hlo hhi⟩
     exact quH (s1:=(k:Int)) (s2:=(k:Int)+1) (s3:=(l.length:Int)+1) hkl cw (qgZ hv hkl hlo hhi) (by simp;omega) (qbu (by omega) (by omega) (by omega)) (df (by omega)) (qbu (by omega) (by omega) (by omega)) (df (by omega)) (qbu (by omega) (by omega) (by omega)) (df (by omega)) (qgO (by omega) (by omega)) (by omega) (by omega) (by omega)
  ·rw[if_neg hp] at cw
   exact Or.inl ⟨8,qju cw (by decide),qqo c2 (qcN hp),Or.inr (Or.inl ⟨hv,hp,rfl⟩)⟩
 ·rw[if_neg h0] at cw
  exact Or.inl ⟨qcj l,qju cw (by simp[h0]),qpG (qbd l) (by simp[h0]),Or.inl ⟨h0,rfl⟩⟩
abbrev saT (k:Nat):List (Nat×SV):=[(2,.pp 2 0),(3,.pp 3 0),(5,.pv (iV (k:Int)))]
theorem qux {l:List Pt} (hn:l.length≤1000000):Fn 49 2 [qap 0 l,qap 1 l] [(0,0,qad l),(1,0,qad l)] (.pv (.bool true)) 0 []:=
 qq5 (by simp) (RunsL.rounds saT (fun _=>[(2,0,.ls 0 l.length),(3,0,.ls 1 l.length),(0,0,qad l),(1,0,qad l)]) l.length 0 (Nat.zero_add _)
  (fun k _ hk r=>by
   obtain⟨p,hp⟩:=qal hk
   exact qnT hp (qaA hk) hp (qaA hk) (dt (by omega)) (by simp) (qar (by omega)) r)
  (qq6 (df (by omega))))
end Go.Proofs.YtleaeldgaflmkaaGreat

namespace Go.Proofs.YtleaeldgaflmkaaGreat
set_option maxRecDepth 100000
open Go.RowKit
structure Tm (tn td:Int):Prop where
 hn:I64 tn
 hd:I64 td
 ok:okB tn td=true
noncomputable def tE (l:List Pt) (tn td:Int):Int:=if qcj l=0 then (if okB tn td=true then 0 else 8) else qcj l
theorem qmU {tn td:Int} (hn:I64 tn) (hd:I64 td) (l:List Pt):Fn 55 1 [qap 0 l,.pv (qaa tn td)] [(0,0,qad l)] (.pv (iV (tE l tn td))) 0 []:=by
 unfold tE
 by_cases h0:qcj l=0
 ·have c1:=qaO l
  rw[h0] at c1
  rw[if_pos h0]
  by_cases hp:okB tn td=true
  ·rw[if_pos hp];exact qrp c1 (qb8 hn hd hp)
  ·rw[if_neg hp];exact qrp c1 (qfh hn hd hp)
 ·rw[if_neg h0]
  exact qsD (qaO l) (by simp[h0])
theorem qwH {l:List Pt} {tn td:Int} (hv:Val l) (ht:okB tn td=true):tE l tn td=0:=by unfold tE;rw[if_pos (qbI.2 hv),if_pos ht]
theorem qBh {l:List Pt} {tn td:Int} (h:tE l tn td=0):Val l∧okB tn td=true:=by
 unfold tE at h
 by_cases h0:qcj l=0
 ·rw[if_pos h0] at h
  by_cases hp:okB tn td=true
  ·exact⟨qbI.1 h0,hp⟩
  ·rw[if_neg hp] at h;cases h
 ·rw[if_neg h0] at h;exact (h0 h).elim
section
variable {l:List Pt} {tn td:Int}
theorem qwY (ht:Tm tn td) {p q:Pt} (hp:qcg p=true) (hq:qcg q=true) :
 Fn 80 1 [.pv (ptV p),.pv (ptV q),.pp 0 0] [(0,0,.pv (iV tn)),(0,1,.pv (iV td))] (.pv (iV (cfL tn td p q))) 0 []:=by
 unfold cfL
 by_cases e:p.id=q.id
 ·rw[if_pos e];exact qyN (by simp[e])
 ·rw[if_neg e]
  have a:=qpA ht.hn ht.hd hp hq ht.ok e
  have hl:qbW (p.a*td+p.b*tn) (q.a*td+q.b*tn) p.b q.b p.id q.id=ld tn td p q:=rfl
  rw[hl] at a
  cases hc:ld tn td p q<;>rw[hc] at a
  ·rw[if_neg (by decide)];exact qAC (by simp[e]) a
  ·rw[if_pos rfl];exact qzT (by simp[e]) a
theorem qlz (hv:Val l) (ht:Tm tn td) {p:Pt} (hp:p∈l):Fn 104 1 [qap 0 l,.pv (ptV p),.pv (qaa tn td)] [(0,0,qad l)] (.pv (iV ((rk tn td l p:Nat):Int))) 0 []:=by
 have hn:=hv.len
 refine qsz ?_
 have h0:rk tn td (l.take 0) p=0:=rfl
 rw[← h0]
 refine RunsL.rounds (fun k=>[(3,.pp 1 0),(4,.pp 2 0),(5,.pp 3 0),(7,.pv (iV ((rk tn td (l.take k) p:Nat):Int))),(8,.pv (iV (k:Int)))])
  (fun _=>[(1,0,.ls 0 l.length),(0,0,qad l),(2,0,.pv (iV p.id)),(2,1,.pv (iV p.a)),(2,2,.pv (iV p.b)),(3,0,.pv (iV tn)),(3,1,.pv (iV td))]) l.length 0 (Nat.zero_add _) (fun k _ hk r=>?_) ?_
 ·obtain⟨q,hq⟩:=qal hk
  have hqm:=List.mem_of_getElem? hq
  rw[qs2 hq] at r
  have hle:rk tn td (l.take k) p≤64:=by
   unfold rk
   exact Nat.le_trans List.countP_le_length (by rw[List.length_take];omega)
  by_cases e:q.id=p.id
  ·have:q=p:=qn4 hv hqm hp e
   subst this
   rw[qe3,if_neg (by decide),Nat.add_zero] at r
   exact qtD hq (qaA hk) (dt (by omega)) (by simp) (qeV hk hn) r
  ·have hl:=qqb ht.hn ht.hd (hv.ok q hqm) (hv.ok p hp)
   have he:qbW (q.a*td+q.b*tn) (p.a*td+p.b*tn) q.b p.b q.id p.id=ld tn td q p:=rfl
   rw[he] at hl
   cases hc:ld tn td q p<;>rw[hc] at hl r
   ·rw[if_neg (by decide),Nat.add_zero] at r
    exact qzX hq (qaA hk) (dt (by omega)) (by simp[e]) hl (qeV hk hn) r
   ·rw[if_pos rfl] at r
    exact qyU hq (qaA hk) (dt (by omega)) (by simp[e]) hl (qar (by omega)) (qeV hk hn) r
 ·simp only[List.take_length]
  exact qvE (df (by omega))
theorem qgy (hv:Val l) (ht:Tm tn td) {s:List Pt} (hs:Srt l tn td s) {m:Pt} (hm:s[0]?=some m):∀ (d k:Nat) (c:Pt),k+d=l.length→c∈l→(∀ (j:Nat) (q:Pt),j<k→l[j]?=some q→ld tn td q c=false)→
 Rl 2 2 56 0 33 4 ([(0,.ls 0 l.length),(1,.pc 80 [.pp 1 0]),(4,.pp 2 0),(5,.pp 3 0),(6,.pv (iV (k:Int)))]) ([(0,0,qad l),(1,0,.pv (iV tn)),(1,1,.pv (iV td)),(3,0,.pv (iV (c).id)),(3,1,.pv (iV (c).a)),(3,2,.pv (iV (c).b)),(2,0,.pv (iV 0)),(2,1,.pv (iV 0)),(2,2,.pv (iV 0))]) (.exit 0) ([(4,.pp 2 0),(5,.pp 3 0)]) ([(0,0,qad l),(1,0,.pv (iV tn)),(1,1,.pv (iV td)),(3,0,.pv (iV (m).id)),(3,1,.pv (iV (m).a)),(3,2,.pv (iV (m).b)),(2,0,.pv (iV 0)),(2,1,.pv (iV 0)),(2,2,.pv (iV 0))])
 | 0,k,c,hd,hc,hf=>by
  have h0:rk tn td l c=0:=by
   unfold rk
   rw[List.countP_eq_zero]
   intro q hq
   obtain⟨j,hj,rfl⟩:=List.getElem_of_mem hq
   rw[hf j _ (by omega) (List.getElem?_eq_getElem hj)];decide
  have:=hs.at hc
  rw[h0,hm] at this
  cases this
  exact qvo (df (by omega))
 | d+1,k,c,hd,hc,hf=>by
  obtain⟨p,hp⟩:=qal (l:=l) (k:=k) (by omega)
  have hpm:=List.mem_of_getElem? hp
  have hcf:=qud (tn:=tn) (td:=td) (p:=p) (q:=c) (fun e=>qn4 hv hpm hc e)
  have hl:=qwY ht (hv.ok p hpm) (hv.ok c hc)
  cases hx:ld tn td p c<;>rw[hx] at hcf
  ·exact qzH hp (qaA (qaw hp)) (dt (by omega)) hl hcf (qeV (qaw hp) hv.len) (qgy hv ht hs hm d (k+1) c (by omega) hc fun j q hj hq=>by
    by_cases e:j=k
    ·subst e;rw[hp] at hq;cases hq;exact hx
    ·exact hf j q (by omega) hq)
  ·exact qzQ hp (qaA (qaw hp)) (dt (by omega)) hl hcf (qeV (qaw hp) hv.len) (qgy hv ht hs hm d (k+1) p (by omega) hpm fun j q hj hq=>by
    by_cases e:j=k
    ·subst e;rw[hp] at hq;cases hq;exact qe3 _
    ·cases hh:ld tn td q p
     ·rfl
     ·have h1:=qjX hh hx
      have h2:=hf j q (by omega) hq
      rw[h1] at h2;cases h2)
theorem qtg (hv:Val l) (ht:Tm tn td) {s:List Pt} (hs:Srt l tn td s) {m:Pt} (hm:s[0]?=some m) :
 Fn 56 2 [.ls 0 l.length,.pc 80 [.pp 1 0]] [(0,0,qad l),(1,0,.pv (iV tn)),(1,1,.pv (iV td))] (.pv (ptV m)) 0 []:=by
 have hl:0<l.length:=by have:=qaw hm;rw[hs.len] at this;exact this
 obtain⟨p,hp⟩:=qal hl
 exact qus hp (qaA (k:=0) hl) (df (by omega)) (qgy hv ht hs hm (l.length-1) (0+1) p (by omega) (List.mem_of_getElem? hp) fun j q hj hq=>by
  have:j=0:=by omega
  subst this
  rw[hp] at hq;cases hq;exact qe3 _)
theorem qsw (s:List Pt):(s.map Pt.id).length=s.length:=List.length_map _
theorem qet (hv:Val l) (ht:Tm tn td) {s:List Pt} (hs:Srt l tn td s):∀ (d k:Nat) (g:List Int),k+d=l.length→g.length=l.length→(∀ (i:Nat) (p:Pt),i<k→l[i]?=some p→g[rk tn td l p]?=some p.id)→
 Rl 1 1 74 0 35 4 ([(2,.pp 1 0),(3,.pp 2 0),(5,.ls 3 l.length),(6,.pv (iV (k:Int)))]) ([(1,0,.ls 0 l.length),(0,0,qad l),(2,0,.pv (iV tn)),(2,1,.pv (iV td)),(3,0,.row 3 1 l.length (qfK g))]) (.exit 0) ([(5,.ls 3 l.length)]) ([(1,0,.ls 0 l.length),(0,0,qad l),(2,0,.pv (iV tn)),(2,1,.pv (iV td)),(3,0,.row 3 1 l.length (qfK (s.map Pt.id)))])
 | 0,k,g,hd,hg,hf=>by
  have:g=s.map Pt.id:=by
   apply List.ext_getElem?
   intro i
   by_cases hi:i<s.length
   ·obtain⟨p,hp⟩:=qal hi
    obtain⟨j,hj,e⟩:=List.getElem_of_mem (hs.perm.mem_iff.1 (List.mem_of_getElem? hp))
    have:=hf j p (by omega) (by rw[List.getElem?_eq_getElem hj,e])
    rw[hs.rank hp] at this
    rw[this,List.getElem?_map,hp];rfl
   ·have e1:g[i]?=none:=List.getElem?_eq_none (by have:=hs.len;omega)
    have e2:(s.map Pt.id)[i]?=none:=List.getElem?_eq_none (by rw[qsw];omega)
    rw[e1,e2]
  subst this
  exact qwy (df (by omega))
 | d+1,k,g,hd,hg,hf=>by
  obtain⟨p,hp⟩:=qal (l:=l) (k:=k) (by omega)
  have hpm:=List.mem_of_getElem? hp
  have hr:=hs.lt hpm
  exact qtB hp (qaA (qaw hp)) (by omega) (qaA hr) (dt (by omega)) (qlz hv ht hpm) (qeV (qaw hp) hv.len) (qet hv ht hs d (k+1) _ (by omega) (by rw[List.length_set];exact hg) fun i q hi hq=>by
   by_cases e:rk tn td l p=rk tn td l q
   ·have h1:=hs.at hpm
    have h2:=hs.at (List.mem_of_getElem? hq)
    rw[← e,h1] at h2
    cases h2
    rw[List.getElem?_set_self (by omega)]
   ·rw[List.getElem?_set_ne e]
    by_cases ek:i=k
    ·subst ek;rw[hp] at hq;cases hq;exact (e rfl).elim
    ·exact hf i q (by omega) hq)
theorem qi7 (hv:Val l) (ht:Tm tn td) {s:List Pt} (hs:Srt l tn td s):Fn 74 1 [qap 0 l,.pv (qaa tn td)] [(0,0,qad l)] (.ls 1 l.length) 1 [(1,0,.row 3 1 l.length (qfK (s.map Pt.id)))]:=
 qtQ (by omega) (by have:=hv.len;omega) (qet hv ht hs l.length 0 _ (Nat.zero_add _) List.length_replicate fun i p hi=>by omega)
end
end Go.Proofs.YtleaeldgaflmkaaGreat

namespace Go.Proofs.YtleaeldgaflmkaaGreat
set_option maxRecDepth 100000
open Go.RowKit Go.Sort
theorem quj {w w':World} (h:Gr w w'):∃ (q:Nat) (os:Array Obj),w'=Sort.grow (w.drewN q) os:=by
 obtain⟨⟨h1,h2,h3,h4,h5⟩,_,h7⟩:=h
 refine⟨w'.drawn-w.drawn,w'.heap.extract w.heap.size w'.heap.size,?_⟩
 obtain⟨heap,tape,drawn,os,output⟩:=w
 obtain⟨heap',tape',drawn',os',output'⟩:=w'
 simp only at h1 h2 h3 h4 h5 h7
 subst h1 h2 h3
 unfold Sort.grow World.drewN
 simp only[World.mk.injEq,and_true,true_and]
 refine⟨?_,by omega⟩
 apply Array.ext_getElem?
 intro i
 by_cases hi:i<heap.size
 ·rw[Array.getElem?_append_left hi];exact h5 i hi
 ·rw[Array.getElem?_append_right (by omega),Array.getElem?_extract]
  by_cases hj:i<heap'.size
  ·rw[if_pos (by omega),show heap.size+(i-heap.size)=i by omega]
  ·rw[if_neg (by omega),Array.getElem?_eq_none (by omega)]
theorem qnp {w:World} {g:Nat} {cur:Array Value} {e:TypeId} {fr:Nat×Nat} (hg:w.heap[g]?=some (.cells cur e fr)) (F:Array Value) :
 (putRow id w g 0 F).heap[g]?=some (.cells (putCells id 0 F cur) e fr):=by
 unfold putRow mapBlock
 simp only[Array.getElem?_modify,if_true,hg,Option.map_some,onCells]
theorem qoT (w:World) (g:Nat) (F:Array Value) {k:Nat} (h:k≠g):(putRow id w g 0 F).heap[k]?=w.heap[k]?:=by
 unfold putRow mapBlock
 simp only[Array.getElem?_modify,if_neg (fun e:g=k=>h e.symm)]
theorem qhc (F cur:Array Value) (h:F.size≤cur.size):(putCells id 0 F cur).toList.take F.size=F.toList:=by
 apply List.ext_getElem?
 intro i
 rw[List.getElem?_take]
 by_cases hi:i<F.size
 ·rw[if_pos hi]
  unfold putCells
  simp only[Array.getElem?_toList,Array.getElem?_mapIdx]
  rw[Array.getElem?_eq_getElem (show i<cur.size by omega),Option.map_some,if_pos (by omega),Nat.sub_zero,getElem!_pos F i hi,Array.getElem?_eq_getElem hi]
  rfl
 ·rw[if_neg hi,List.getElem?_eq_none (by simpa using hi)]
theorem qg5 (F cur:Array Value):(putCells id 0 F cur).size=cur.size:=by unfold putCells;simp
section
variable {l:List Pt} {tn td:Int}
end
end Go.Proofs.YtleaeldgaflmkaaGreat

namespace Go.Proofs.YtleaeldgaflmkaaGreat
set_option maxRecDepth 100000
theorem ql6 {α:Type} {r:α→α→Prop}:∀ {a b:List α},a.Perm b→(∀ x∈a,∀ y∈a,r x y→r y x→x=y)→a.Pairwise r→b.Pairwise r→a=b
 | [],b,h,_,_,_=>h.nil_eq
 | x::a,b,h,hr,ha,hb=>by
  cases b with
  | nil=>exact (List.not_perm_cons_nil h).elim
  | cons y b=>
   have hx:x∈y::b:=h.subset List.mem_cons_self
   have hy:y∈x::a:=h.symm.subset List.mem_cons_self
   have e:x=y:=by
    rcases List.mem_cons.1 hx with e | hx
    ·exact e
    ·rcases List.mem_cons.1 hy with e | hy
     ·exact e.symm
     ·exact hr x List.mem_cons_self y (List.mem_cons_of_mem _ hy) ((List.pairwise_cons.1 ha).1 y hy) ((List.pairwise_cons.1 hb).1 x hx)
   subst e
   rw[ql6 h.cons_inv (fun u hu v hv=>hr u (List.mem_cons_of_mem _ hu) v (List.mem_cons_of_mem _ hv)) (List.pairwise_cons.1 ha).2 (List.pairwise_cons.1 hb).2]
end Go.Proofs.YtleaeldgaflmkaaGreat

namespace Go.Proofs.YtleaeldgaflmkaaGreat
set_option maxRecDepth 100000
open Go.RowKit Go.Sort
theorem qnL {W w':World} {β:Bl} {pre:List (Nat×Nat×SV)} {u:Value} {l:List Pt} (H:HRel W 1 β pre W) (hd:β.dom 1) (hg:Gr W w') (ho:w'.ownsRow W.heap.size 34 3 u l.length (qaY l)) :
 HRel W 1 (β.setG 1 u) [(1,0,qad l)] w':=qmT H hd hg ho (qgK l)
theorem qko {β:Bl} {u:Value} (hd:β.dom 1):(β.setG 1 u).dom (1+1):=fun b hb=>⟨(hd b (by omega)).1,by unfold Bl.setG;simp only[if_neg (show b≠1 by omega)];exact (hd b (by omega)).2⟩
theorem qia {l:List Pt} (hn:l.length≤1000000):Fn 68 1 [.ls 0 l.length] [(0,0,qad l)] (.ls 1 l.length) 1 [(1,0,qad l)]:=by
 by_cases h:l=[]
 ·subst h
  intro w β us hH hd hargs
  match us,hargs with
  | [v],⟨⟨_,a,c,hv⟩,_⟩=>
   have hd1:=hd 1 (Nat.le_refl _)
   cases a with
   | none=>
    subst hv
    refine (qoe w).mono fun e w' ⟨he,hg⟩=>?_
    have ho:w'.ownsRow w.heap.size 34 3 (.slice none 0 0) ([]:List Pt).length (qaY []):=⟨rfl,Or.inl ⟨rfl,rfl⟩⟩
    exact⟨_,β.setG 1 (.slice none 0 0),he,Bl.le_setG hd1.1 hd1.2,⟨Bl.setG_same _ _ _,none,0,rfl⟩,qnL hH hd hg ho,qko hd⟩
   | some ad=>
    subst hv
    have h0:HRel w 0 Bl.no [] w:=⟨Gr.refl w,fun _ _ h=>(by cases h),fun _ _ _ h=>(by cases h),fun _ _ _ h=>(by cases h),fun _ _ h=>(by cases h),fun _ _ _ h=>(by cases h),fun _ _ _ h=>(by cases h),fun _ _ _ _ _ _ _ _ h=>(by cases h),fun _ _ _ h=>(by cases h),FzIs.no1 (fun _ _ _ h=>by cases h) fun _=>rfl⟩
    refine (qti (ad:=ad) (c:=c) w Bl.no [.slice (some ad) 0 c] h0 (fun _ _=>⟨rfl,rfl⟩) ⟨rfl,tI⟩).mono fun e w' ⟨v,β',he,_,⟨hx,a',c',hv⟩,hh,_⟩=>?_
    obtain⟨u,hu,hr⟩:=hh.rows 0 0 _ _ _ _ rfl
    rw[hx] at hu
    cases hu
    exact⟨_,β.setG 1 v,he,Bl.le_setG hd1.1 hd1.2,⟨Bl.setG_same _ _ _,a',c',hv⟩,qnL hH hd hh.gr (hr.own (Nat.le_refl _)),qko hd⟩
 ·have:0<l.length:=List.length_pos_iff.2 h
  exact qkH this (by omega)
section
variable {l:List Pt} {tn td:Int}
abbrev qrT (f:FuncId) (l:List Pt) (tn td x e:Int):Prop:=Fn f 1 [qap 0 l,.pv (qaa tn td)] [(0,0,qad l)] (.pv (.tuple #[iV x,iV e])) 0 []
end
end Go.Proofs.YtleaeldgaflmkaaGreat
