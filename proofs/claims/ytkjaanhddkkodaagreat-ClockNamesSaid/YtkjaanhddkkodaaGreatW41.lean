/-
  Joined: Lk, Bq, Ll, Lo. Conditions: none.
-/
import Derived.Test.YtkjaanhddkkodaaGreatW40
import Derived.Test.YtkjaanhddkkodaaGreatW18
import Derived.Test.YtkjaanhddkkodaaGreatW39
import Derived.Test.YtkjaanhddkkodaaGreatW31
namespace Go.Proofs.YtkjaanhddkkodaaGreat
set_option maxRecDepth 100000
open Go.RowKit
abbrev qaM (l:List Pt) (n:Int):List Pt:=l.filter fun p=>decide (p.id≠n)
abbrev qEF (c:Ck) (n:Int) (k j:Nat) (y:Ev):Ck:={ c with l:=qaM c.l n,b:=c.b.set y.i.toNat false,fr:=c.fr++[y.i],ev:=(qan c.ev c.wh j y).1,wh:=(qan c.ev c.wh j y).2,d:=c.d.take k++c.d.drop (k+1) }
def qf5 (c:Ck) (n:Int) (o:Ck):Prop:=((∀ q∈c.d,q.id≠n)∧o={ c with l:=qaM c.l n })∨
 ∃ (k:Nat) (q:Pt) (j:Nat) (y:Ev),c.d[k]?=some q∧q.id=n∧(∀ (i:Nat) (p:Pt),i<k→c.d[i]?=some p→p.id≠n)∧c.ev[j]?=some y∧y.i=q.a∧y.w=q.b∧o=qEF c n k j y
theorem qu4 {c:Ck} (V:V9 c) (n:Int):∃ o,qf5 c n o:=by
 rcases qaY (fun k=>∀ q,c.d[k]?=some q→q.id≠n) c.d.length with h | ⟨k,hk,hb,hf⟩
 ·refine⟨_,Or.inl ⟨fun q hq=>?_,rfl⟩⟩
  obtain⟨k,hk⟩:=List.getElem?_of_mem hq
  exact h k (qak hk) q hk
 ·simp only[Classical.not_forall,Classical.not_not] at hb
  obtain⟨q,hq,he⟩:=hb
  obtain⟨p,_,_,y0,hd⟩:=V.f.some q (List.mem_of_getElem? hq)
  obtain⟨j,y,h1,h2,h3,h4⟩:=VA.find V.a hd.lv
  exact⟨_,Or.inr ⟨k,q,j,y,hq,he,fun i p hi hp=>hf i hi p hp,h2,h3,h4,rfl⟩⟩
abbrev qv8 (f:FuncId) (c:Ck) (n e:Int):Prop:=Fn f 8 [qam c,.pv (iV n)] (qas c) (.pv (.tuple #[qa3,iV e])) 0 []
abbrev qEz (f:FuncId) (c:Ck) (n:Int) (o:Ck):Prop:=Fn f 8 [qam c,.pv (iV n)] (qas c) (.tu [qg6 o,.one (.pv (iV 0))]) 8 (qc9 o)
noncomputable def reE (c:Ck) (n:Int):Int:=open Classical in if V9 c then (if ∃ p∈c.l,p.id=n then 0 else 6) else 8
def qeF (c:Ck) (y:Ev) (p:Pt) (o:Ck):Prop:=c.ev[0]?=some y∧p∈c.l∧p.id=y.k∧∃ g,qf5 c y.k g∧o={ g with tn:=y.n,td:=y.d }
abbrev quu (f:FuncId) (c:Ck) (tn td e:Int):Prop:=Fn f 8 [qam c,.pv (qaa tn td)] (qas c) (.pv (.tuple #[qa3,evZ,qaf 0 0,iV e])) 0 []
abbrev qEQ (f:FuncId) (c:Ck) (tn td:Int) (y:Ev) (p:Pt) (o:Ck):Prop:=Fn f 8 [qam c,.pv (qaa tn td)] (qas c) (.tu [qg6 o,.one (.pv (qab y)),.one (.pv (qaf p.a p.b)),.one (.pv (iV 0))]) 8 (qc9 o)
noncomputable def faE (c:Ck) (tn td:Int):Int:=if qde c tn td=0 then (if qlZ c tn td=true then 0 else 6) else qde c tn td
theorem qsf {c:Ck} {tn td:Int} (h:qde c tn td=0):V9 c∧okB tn td=true∧c.tn*td≤tn*c.td:=by
 unfold qde at h
 split at h
 ·rename_i h1
  split at h
  ·cases h
  ·exact⟨h1.1,h1.2,by omega⟩
 ·cases h
abbrev qsT (f:FuncId) (c:Ck) (tn td e:Int):Prop:=Fn f 8 [qam c,.pv (qaa tn td)] (qas c) (.pv (.tuple #[qa3,iV e])) 0 []
abbrev qER (f:FuncId) (c:Ck) (tn td:Int):Prop:=Fn f 8 [qam c,.pv (qaa tn td)] (qas c) (.tu [qg6 { c with tn:=tn,td:=td },.one (.pv (iV 0))]) 8 (qc9 { c with tn:=tn,td:=td })
noncomputable def moE (c:Ck) (tn td:Int):Int:=if qde c tn td=0 then (if qlZ c tn td=true then 36 else 0) else qde c tn td
abbrev qdy (s:List Pt) (tn td:Int):Ck:=⟨tn,td,s,0,[],List.replicate 200 0,List.replicate 200 false,qaS 200,[],List.replicate 200 (-1),[]⟩
abbrev qxu (f:FuncId) (s:List Pt) (tn td e:Int):Prop:=Fn f 1 [qaE 0 s,.pv (qaa tn td)] [(0,0,qaj s)] (.pv (.tuple #[qa3,iV e])) 0 []
end Go.Proofs.YtkjaanhddkkodaaGreat

namespace Go.Proofs.YtkjaanhddkkodaaGreat
set_option maxRecDepth 100000
open Go.RowKit
abbrev nmK (x:Int) (l:List Pt) (u:List Int) (b:List Bool) (fr:List Int) (ev:List Ev) (wh:List Int) (qa qb:Int):Ck:=⟨1,1,qa9 0,x,l,u,b,fr,ev,wh,[⟨0,qa,qb⟩]⟩
abbrev qft:List Pt:=List.replicate 65 (Pt.mk 0 0 0)
theorem qrV:∀ {l:List Pt} {k:Nat} {p:Pt} (_:l[k]?=some p) (x:Int),qbd (l.set k ⟨p.id,p.a,x⟩)=qdf (qbd l) (k*3+2) [iV x]
 | [],k,p,h,_=>by simp at h
 | q::r,0,p,h,x=>by simp at h;subst h;rfl
 | q::r,k+1,p,h,x=>by
  rw[List.set_cons_succ,qbd,qrV (l:=r) (k:=k) (p:=p) (by simpa using h) x,show (k+1)*3+2=k*3+2+1+1+1 by omega]
  simp[qdf,qbd,Nat.add_right_comm]
theorem qrS:∀ {l:List Pt} {k:Nat} {p:Pt} (_:l[k]?=some p) (x:Int),qbd (l.set k ⟨x,p.a,p.b⟩)=qdf (qbd l) (k*3) [iV x]
 | [],k,p,h,_=>by simp at h
 | q::r,0,p,h,x=>by simp at h;subst h;rfl
 | q::r,k+1,p,h,x=>by
  rw[List.set_cons_succ,qbd,qrS (l:=r) (k:=k) (p:=p) (by simpa using h) x,show (k+1)*3=k*3+1+1+1 by omega]
  simp[qdf,qbd,Nat.add_right_comm]
theorem qy6 {l:List Pt} {k:Nat} {p:Pt} (h:l[k]?=some p) (x:Int):qbd (l.set k ⟨p.id,p.a,x⟩)=qdf (qbd l) (0*3+k*3+2) [iV x]:=by rw[Nat.zero_mul,Nat.zero_add];exact qrV h x
theorem qy9 {l:List Pt} {k:Nat} {p:Pt} (h:l[k]?=some p) (x:Int):qbd (l.set k ⟨x,p.a,p.b⟩)=qdf (qbd l) (0*3+k*3+0) [iV x]:=by rw[Nat.zero_mul,Nat.zero_add,Nat.add_zero];exact qrS h x
abbrev qg7 (b:List Bool) (ev:List Ev) (fr:List Int) (l:List Pt) (qa:Int) (qb:Int) (u:List Int) (wh:List Int) (x:Int):HpL:=[(14,0,.pv (iV (nmK x l u b fr ev wh qa qb).tn)),(14,1,.pv (iV (nmK x l u b fr ev wh qa qb).td)),(14,2,.ls 6 (nmK x l u b fr ev wh qa qb).s.length),(14,3,.pv (iV (nmK x l u b fr ev wh qa qb).x)),(14,4,.ls 7 (nmK x l u b fr ev wh qa qb).l.length),(14,5,.ls 8 (nmK x l u b fr ev wh qa qb).u.length),(14,6,.ls 9 (nmK x l u b fr ev wh qa qb).b.length),(14,7,.ls 10 (nmK x l u b fr ev wh qa qb).fr.length),(14,8,.ls 11 (nmK x l u b fr ev wh qa qb).ev.length),(14,9,.ls 12 (nmK x l u b fr ev wh qa qb).wh.length),(14,10,.ls 13 (nmK x l u b fr ev wh qa qb).d.length),(6,0,qaj (nmK x l u b fr ev wh qa qb).s),(7,0,qal (nmK x l u b fr ev wh qa qb).l),(8,0,zrI (nmK x l u b fr ev wh qa qb).u),(9,0,zrB (nmK x l u b fr ev wh qa qb).b),(10,0,zrI (nmK x l u b fr ev wh qa qb).fr),(11,0,qao (nmK x l u b fr ev wh qa qb).ev),(12,0,zrI (nmK x l u b fr ev wh qa qb).wh),(13,0,qaJ (nmK x l u b fr ev wh qa qb).d)]
abbrev qod (b:List Bool) (ev:List Ev) (fr:List Int) (l:List Pt) (qa:Int) (qb:Int) (u:List Int) (wh:List Int) (x:Int):HpL:=[(0,0,qaj (nmK x l u b fr ev wh qa qb).s),(1,0,qal (nmK x l u b fr ev wh qa qb).l),(2,0,zrI (nmK x l u b fr ev wh qa qb).u),(3,0,zrB (nmK x l u b fr ev wh qa qb).b),(4,0,zrI (nmK x l u b fr ev wh qa qb).fr),(5,0,qao (nmK x l u b fr ev wh qa qb).ev),(6,0,zrI (nmK x l u b fr ev wh qa qb).wh),(7,0,qaJ (nmK x l u b fr ev wh qa qb).d)]
abbrev qtX (b:List Bool) (ev:List Ev) (fr:List Int) (l:List Pt) (qa:Int) (qb:Int) (u:List Int) (wh:List Int) (x:Int):Prop:=Fn 14 8 [qam (nmK x l u b fr ev wh qa qb)] (qod b ev fr l qa qb u wh x) (ql0 (nmK x l u b fr ev wh qa qb)) 8 [(8,0,qaj (nmK x l u b fr ev wh qa qb).s),(9,0,qal (nmK x l u b fr ev wh qa qb).l),(10,0,zrI (nmK x l u b fr ev wh qa qb).u),(11,0,zrB (nmK x l u b fr ev wh qa qb).b),(12,0,zrI (nmK x l u b fr ev wh qa qb).fr),(13,0,qao (nmK x l u b fr ev wh qa qb).ev),(14,0,zrI (nmK x l u b fr ev wh qa qb).wh),(15,0,qaJ (nmK x l u b fr ev wh qa qb).d)]
abbrev qsn:Prop:=Pure Tryz.prog 13 #[iV 0] (qaa 0 1)
theorem qFe {x:Int} {l:List Pt} {u fr wh:List Int} {b:List Bool} {ev:List Ev} {qa qb:Int} (htw:qtX b ev fr l qa qb u wh x) (c1:Fn 16 8 [qam ({ (nmK x l u b fr ev wh qa qb) with td:=0 }:Ck),.pv (qaf 0 0)] (qas ({ (nmK x l u b fr ev wh qa qb) with td:=0 }:Ck)) (.pv (.tuple #[qa3,iV 0,iV 8])) 0 []) (c2:Fn 17 8 [qam ({ (nmK x l u b fr ev wh qa qb) with td:=0 }:Ck),.pv (iV (9))] (qas ({ (nmK x l u b fr ev wh qa qb) with td:=0 }:Ck)) (.pv (.tuple #[qa3,iV 8])) 0 []) (c3:Fn 18 8 [qam ({ (nmK x l u b fr ev wh qa qb) with td:=0 }:Ck)] (qas ({ (nmK x l u b fr ev wh qa qb) with td:=0 }:Ck)) (.pv (.tuple #[.agg #[iV 0,iV 0,iV 0,iV 0,iV 0],iV 8])) 0 []) (c4:Fn 19 8 [qam ({ (nmK x l u b fr ev wh qa qb) with td:=0 }:Ck),.pv (qaa 0 0)] (qas ({ (nmK x l u b fr ev wh qa qb) with td:=0 }:Ck)) (.pv (.tuple #[qa3,.agg #[iV 0,iV 0,iV 0,iV 0,iV 0],qaf 0 0,iV 8])) 0 []) (hat0:qsn) (c5:Fn 20 8 [qam ({ (nmK x l u b fr ev wh qa qb) with td:=0 }:Ck),.pv (qaa 0 1)] (qas ({ (nmK x l u b fr ev wh qa qb) with td:=0 }:Ck)) (.pv (.tuple #[qa3,iV 8])) 0 []) (c6:Fn 21 9 [qam ({ (nmK x l u b fr ev wh qa qb) with td:=0 }:Ck),qaE 8 qft] [(0,0,qaj ({ (nmK x l u b fr ev wh qa qb) with td:=0 }:Ck).s),(1,0,qal ({ (nmK x l u b fr ev wh qa qb) with td:=0 }:Ck).l),(2,0,zrI ({ (nmK x l u b fr ev wh qa qb) with td:=0 }:Ck).u),(3,0,zrB ({ (nmK x l u b fr ev wh qa qb) with td:=0 }:Ck).b),(4,0,zrI ({ (nmK x l u b fr ev wh qa qb) with td:=0 }:Ck).fr),(5,0,qao ({ (nmK x l u b fr ev wh qa qb) with td:=0 }:Ck).ev),(6,0,zrI ({ (nmK x l u b fr ev wh qa qb) with td:=0 }:Ck).wh),(7,0,qaJ ({ (nmK x l u b fr ev wh qa qb) with td:=0 }:Ck).d),(8,0,qaj qft)] (.pv (.tuple #[qa3,iV 8])) 0 []) (c7:Fn 22 8 [qam ({ (nmK x l u b fr ev wh qa qb) with td:=0 }:Ck)] (qas ({ (nmK x l u b fr ev wh qa qb) with td:=0 }:Ck)) (.pv (iV (8))) 0 []) {e:Exit} {tm2:TmL} {hp2:HpL}
 (r:Rl 0 0 3 0 392 15 ([(2,.pv (iV 4)),(4,.pv (iV 8)),(5,.pp 14 0),(7,.pv (iV 1))]) (qg7 b ev fr l qa qb u wh x) e tm2 hp2):Rl 0 0 3 0 392 15 ([(2,.pv (iV 4)),(4,.pv (iV 8)),(5,.pp 14 0),(7,.pv (iV 0))]) (qg7 b ev fr l qa qb u wh x) e tm2 hp2:=
 RunsL.next [] 500 [.k,Cf htw [6,7,8,9,10,11,12,13],.k,Cf c1 [15,16,17,18,19,20,21,22],Cf c2 [15,16,17,18,19,20,21,22],Cf c3 [15,16,17,18,19,20,21,22],Cf c4 [15,16,17,18,19,20,21,22],Rf hat0,Cf c5 [15,16,17,18,19,20,21,22],.md,Cf c6 [15,16,17,18,19,20,21,22,31],Cf c7 [15,16,17,18,19,20,21,22],.k,.k,.k,.k,.k,.k,.k,.k]
  (Ro (Co htw [6,7,8,9,10,11,12,13] 15 (Co c1 [15,16,17,18,19,20,21,22] 24 (Co c2 [15,16,17,18,19,20,21,22] 25 (Co c3 [15,16,17,18,19,20,21,22] 26 (Co c4 [15,16,17,18,19,20,21,22] 27 (Ai hat0 (Co c5 [15,16,17,18,19,20,21,22] 30 (Ai (show (0:Int)≤65 from by decide) (Ai (Eq.refl (65:Int)) (Ai (show (65:Int)≤1000000 from by decide) (Co c6 [15,16,17,18,19,20,21,22,31] 32 (Co c7 [15,16,17,18,19,20,21,22] 33 tI))))))))))))) r
theorem qFl {x:Int} {l:List Pt} {u fr wh:List Int} {b:List Bool} {ev:List Ev} {qa qb:Int} (htw:qtX b ev fr l qa qb u wh x) (hat3:Pure Tryz.prog 13 #[iV 3] (qaa 3 1)) (c1:Fn 16 8 [qam ({ (nmK x l u b fr ev wh qa qb) with tn:=3,td:=1 }:Ck),.pv (qaf 0 0)] (qas ({ (nmK x l u b fr ev wh qa qb) with tn:=3,td:=1 }:Ck)) (.pv (.tuple #[qa3,iV 0,iV 8])) 0 []) (c2:Fn 17 8 [qam ({ (nmK x l u b fr ev wh qa qb) with tn:=3,td:=1 }:Ck),.pv (iV (9))] (qas ({ (nmK x l u b fr ev wh qa qb) with tn:=3,td:=1 }:Ck)) (.pv (.tuple #[qa3,iV 8])) 0 []) (c3:Fn 18 8 [qam ({ (nmK x l u b fr ev wh qa qb) with tn:=3,td:=1 }:Ck)] (qas ({ (nmK x l u b fr ev wh qa qb) with tn:=3,td:=1 }:Ck)) (.pv (.tuple #[.agg #[iV 0,iV 0,iV 0,iV 0,iV 0],iV 8])) 0 []) (c4:Fn 19 8 [qam ({ (nmK x l u b fr ev wh qa qb) with tn:=3,td:=1 }:Ck),.pv (qaa 0 0)] (qas ({ (nmK x l u b fr ev wh qa qb) with tn:=3,td:=1 }:Ck)) (.pv (.tuple #[qa3,.agg #[iV 0,iV 0,iV 0,iV 0,iV 0],qaf 0 0,iV 8])) 0 []) (hat0:qsn) (c5:Fn 20 8 [qam ({ (nmK x l u b fr ev wh qa qb) with tn:=3,td:=1 }:Ck),.pv (qaa 0 1)] (qas ({ (nmK x l u b fr ev wh qa qb) with tn:=3,td:=1 }:Ck)) (.pv (.tuple #[qa3,iV 8])) 0 []) (c6:Fn 21 9 [qam ({ (nmK x l u b fr ev wh qa qb) with tn:=3,td:=1 }:Ck),qaE 8 qft] [(0,0,qaj ({ (nmK x l u b fr ev wh qa qb) with tn:=3,td:=1 }:Ck).s),(1,0,qal ({ (nmK x l u b fr ev wh qa qb) with tn:=3,td:=1 }:Ck).l),(2,0,zrI ({ (nmK x l u b fr ev wh qa qb) with tn:=3,td:=1 }:Ck).u),(3,0,zrB ({ (nmK x l u b fr ev wh qa qb) with tn:=3,td:=1 }:Ck).b),(4,0,zrI ({ (nmK x l u b fr ev wh qa qb) with tn:=3,td:=1 }:Ck).fr),(5,0,qao ({ (nmK x l u b fr ev wh qa qb) with tn:=3,td:=1 }:Ck).ev),(6,0,zrI ({ (nmK x l u b fr ev wh qa qb) with tn:=3,td:=1 }:Ck).wh),(7,0,qaJ ({ (nmK x l u b fr ev wh qa qb) with tn:=3,td:=1 }:Ck).d),(8,0,qaj qft)] (.pv (.tuple #[qa3,iV 8])) 0 []) (c7:Fn 22 8 [qam ({ (nmK x l u b fr ev wh qa qb) with tn:=3,td:=1 }:Ck)] (qas ({ (nmK x l u b fr ev wh qa qb) with tn:=3,td:=1 }:Ck)) (.pv (iV (8))) 0 []) {e:Exit} {tm2:TmL} {hp2:HpL}
 (r:Rl 0 0 3 0 392 15 ([(2,.pv (iV 4)),(4,.pv (iV 8)),(5,.pp 14 0),(7,.pv (iV 2))]) (qg7 b ev fr l qa qb u wh x) e tm2 hp2):Rl 0 0 3 0 392 15 ([(2,.pv (iV 4)),(4,.pv (iV 8)),(5,.pp 14 0),(7,.pv (iV 1))]) (qg7 b ev fr l qa qb u wh x) e tm2 hp2:=
 RunsL.next [] 500 [.k,Cf htw [6,7,8,9,10,11,12,13],.k,.k,Rf hat3,Cf c1 [15,16,17,18,19,20,21,22],Cf c2 [15,16,17,18,19,20,21,22],Cf c3 [15,16,17,18,19,20,21,22],Cf c4 [15,16,17,18,19,20,21,22],Rf hat0,Cf c5 [15,16,17,18,19,20,21,22],.md,Cf c6 [15,16,17,18,19,20,21,22,31],Cf c7 [15,16,17,18,19,20,21,22],.k,.k,.k,.k,.k,.k,.k,.k]
  (Ro (Co htw [6,7,8,9,10,11,12,13] 15 (Ai hat3 (Co c1 [15,16,17,18,19,20,21,22] 24 (Co c2 [15,16,17,18,19,20,21,22] 25 (Co c3 [15,16,17,18,19,20,21,22] 26 (Co c4 [15,16,17,18,19,20,21,22] 27 (Ai hat0 (Co c5 [15,16,17,18,19,20,21,22] 30 (Ai (show (0:Int)≤65 from by decide) (Ai (Eq.refl (65:Int)) (Ai (show (65:Int)≤1000000 from by decide) (Co c6 [15,16,17,18,19,20,21,22,31] 32 (Co c7 [15,16,17,18,19,20,21,22] 33 tI)))))))))))))) r
abbrev qwC (b:List Bool) (ev:List Ev) (fr:List Int) (l:List Pt) (qa:Int) (qb:Int) (u:List Int) (wh:List Int):HpL:=[(0,0,qaj (qa9 0)),(1,0,qal l),(2,0,zrI u),(3,0,zrB b),(4,0,zrI fr),(5,0,qao ev),(6,0,zrI wh),(7,0,qaJ [⟨0,qa,qb⟩])]
theorem qE9 {x:Int} {l:List Pt} {u fr wh:List Int} {b:List Bool} {ev:List Ev} {qa qb:Int} (htw:qtX b ev fr l qa qb u wh x) (c1:Fn 16 8 [.ag [.pv (iV 1),.pv (iV 1),.lq 0 3 1 2,.pv (iV x),.ls 1 l.length,.ls 2 u.length,.ls 3 b.length,.ls 4 fr.length,.ls 5 ev.length,.ls 6 wh.length,.ls 7 1],.pv (qaf 0 0)] (qwC b ev fr l qa qb u wh) (.pv (.tuple #[qa3,iV 0,iV 8])) 0 []) (c2:Fn 17 8 [.ag [.pv (iV 1),.pv (iV 1),.lq 0 3 1 2,.pv (iV x),.ls 1 l.length,.ls 2 u.length,.ls 3 b.length,.ls 4 fr.length,.ls 5 ev.length,.ls 6 wh.length,.ls 7 1],.pv (iV (9))] (qwC b ev fr l qa qb u wh) (.pv (.tuple #[qa3,iV 8])) 0 []) (c3:Fn 18 8 [.ag [.pv (iV 1),.pv (iV 1),.lq 0 3 1 2,.pv (iV x),.ls 1 l.length,.ls 2 u.length,.ls 3 b.length,.ls 4 fr.length,.ls 5 ev.length,.ls 6 wh.length,.ls 7 1]] (qwC b ev fr l qa qb u wh) (.pv (.tuple #[.agg #[iV 0,iV 0,iV 0,iV 0,iV 0],iV 8])) 0 []) (c4:Fn 19 8 [.ag [.pv (iV 1),.pv (iV 1),.lq 0 3 1 2,.pv (iV x),.ls 1 l.length,.ls 2 u.length,.ls 3 b.length,.ls 4 fr.length,.ls 5 ev.length,.ls 6 wh.length,.ls 7 1],.pv (qaa 0 0)] (qwC b ev fr l qa qb u wh) (.pv (.tuple #[qa3,.agg #[iV 0,iV 0,iV 0,iV 0,iV 0],qaf 0 0,iV 8])) 0 []) (hat0:qsn) (c5:Fn 20 8 [.ag [.pv (iV 1),.pv (iV 1),.lq 0 3 1 2,.pv (iV x),.ls 1 l.length,.ls 2 u.length,.ls 3 b.length,.ls 4 fr.length,.ls 5 ev.length,.ls 6 wh.length,.ls 7 1],.pv (qaa 0 1)] (qwC b ev fr l qa qb u wh) (.pv (.tuple #[qa3,iV 8])) 0 []) (c6:Fn 21 9 [.ag [.pv (iV 1),.pv (iV 1),.lq 0 3 1 2,.pv (iV x),.ls 1 l.length,.ls 2 u.length,.ls 3 b.length,.ls 4 fr.length,.ls 5 ev.length,.ls 6 wh.length,.ls 7 1],qaE 8 qft] [(0,0,qaj (qa9 0)),(1,0,qal l),(2,0,zrI u),(3,0,zrB b),(4,0,zrI fr),(5,0,qao ev),(6,0,zrI wh),(7,0,qaJ [⟨0,qa,qb⟩]),(8,0,qaj qft)] (.pv (.tuple #[qa3,iV 8])) 0 []) (c7:Fn 22 8 [.ag [.pv (iV 1),.pv (iV 1),.lq 0 3 1 2,.pv (iV x),.ls 1 l.length,.ls 2 u.length,.ls 3 b.length,.ls 4 fr.length,.ls 5 ev.length,.ls 6 wh.length,.ls 7 1]] (qwC b ev fr l qa qb u wh) (.pv (iV (8))) 0 []) {e:Exit} {tm2:TmL} {hp2:HpL}
 (r:Rl 0 0 3 0 392 15 ([(2,.pv (iV 4)),(4,.pv (iV 8)),(5,.pp 14 0),(7,.pv (iV 3))]) (qg7 b ev fr l qa qb u wh x) e tm2 hp2):Rl 0 0 3 0 392 15 ([(2,.pv (iV 4)),(4,.pv (iV 8)),(5,.pp 14 0),(7,.pv (iV 2))]) (qg7 b ev fr l qa qb u wh x) e tm2 hp2:=
 RunsL.next [] 500 [.k,Cf htw [6,7,8,9,10,11,12,13],.k,.k,.k,.k,Cf c1 [15,16,17,18,19,20,21,22],Cf c2 [15,16,17,18,19,20,21,22],Cf c3 [15,16,17,18,19,20,21,22],Cf c4 [15,16,17,18,19,20,21,22],Rf hat0,Cf c5 [15,16,17,18,19,20,21,22],.md,Cf c6 [15,16,17,18,19,20,21,22,31],Cf c7 [15,16,17,18,19,20,21,22],.k,.k,.k,.k,.k,.k,.k,.k]
  (Ro (Co htw [6,7,8,9,10,11,12,13] 15 (Ai (show (0:Int)≤1 from by decide) (Ai tI (Ai (show 1≤3 from by decide) (Ai (Nat.le_refl 3) (Co c1 [15,16,17,18,19,20,21,22] 24 (Co c2 [15,16,17,18,19,20,21,22] 25 (Co c3 [15,16,17,18,19,20,21,22] 26 (Co c4 [15,16,17,18,19,20,21,22] 27 (Ai hat0 (Co c5 [15,16,17,18,19,20,21,22] 30 (Ai (show (0:Int)≤65 from by decide) (Ai (Eq.refl (65:Int)) (Ai (show (65:Int)≤1000000 from by decide) (Co c6 [15,16,17,18,19,20,21,22,31] 32 (Co c7 [15,16,17,18,19,20,21,22] 33 tI))))))))))))))))) r
abbrev qwG (b:List Bool) (ev:List Ev) (fr:List Int) (l:List Pt) (u:List Int) (wh:List Int):HpL:=[(0,0,qaj (qa9 0)),(1,0,qal l),(2,0,zrI u),(3,0,zrB b),(4,0,zrI fr),(5,0,qao ev),(6,0,zrI wh)]
theorem qFu {x:Int} {l:List Pt} {u fr wh:List Int} {b:List Bool} {ev:List Ev} {qa qb:Int} (htw:qtX b ev fr l qa qb u wh x) (c1:Fn 16 7 [.ag [.pv (iV 1),.pv (iV 1),.ls 0 3,.pv (iV x),.ls 1 l.length,.ls 2 u.length,.ls 3 b.length,.ls 4 fr.length,.ls 5 ev.length,.ls 6 wh.length,.pv (.slice none 0 0)],.pv (qaf 0 0)] (qwG b ev fr l u wh) (.pv (.tuple #[qa3,iV 0,iV 8])) 0 []) (c2:Fn 17 7 [.ag [.pv (iV 1),.pv (iV 1),.ls 0 3,.pv (iV x),.ls 1 l.length,.ls 2 u.length,.ls 3 b.length,.ls 4 fr.length,.ls 5 ev.length,.ls 6 wh.length,.pv (.slice none 0 0)],.pv (iV (9))] (qwG b ev fr l u wh) (.pv (.tuple #[qa3,iV 8])) 0 []) (c3:Fn 18 7 [.ag [.pv (iV 1),.pv (iV 1),.ls 0 3,.pv (iV x),.ls 1 l.length,.ls 2 u.length,.ls 3 b.length,.ls 4 fr.length,.ls 5 ev.length,.ls 6 wh.length,.pv (.slice none 0 0)]] (qwG b ev fr l u wh) (.pv (.tuple #[.agg #[iV 0,iV 0,iV 0,iV 0,iV 0],iV 8])) 0 []) (c4:Fn 19 7 [.ag [.pv (iV 1),.pv (iV 1),.ls 0 3,.pv (iV x),.ls 1 l.length,.ls 2 u.length,.ls 3 b.length,.ls 4 fr.length,.ls 5 ev.length,.ls 6 wh.length,.pv (.slice none 0 0)],.pv (qaa 0 0)] (qwG b ev fr l u wh) (.pv (.tuple #[qa3,.agg #[iV 0,iV 0,iV 0,iV 0,iV 0],qaf 0 0,iV 8])) 0 []) (hat0:qsn) (c5:Fn 20 7 [.ag [.pv (iV 1),.pv (iV 1),.ls 0 3,.pv (iV x),.ls 1 l.length,.ls 2 u.length,.ls 3 b.length,.ls 4 fr.length,.ls 5 ev.length,.ls 6 wh.length,.pv (.slice none 0 0)],.pv (qaa 0 1)] (qwG b ev fr l u wh) (.pv (.tuple #[qa3,iV 8])) 0 []) (c6:Fn 21 8 [.ag [.pv (iV 1),.pv (iV 1),.ls 0 3,.pv (iV x),.ls 1 l.length,.ls 2 u.length,.ls 3 b.length,.ls 4 fr.length,.ls 5 ev.length,.ls 6 wh.length,.pv (.slice none 0 0)],qaE 7 qft] [(0,0,qaj (qa9 0)),(1,0,qal l),(2,0,zrI u),(3,0,zrB b),(4,0,zrI fr),(5,0,qao ev),(6,0,zrI wh),(7,0,qaj qft)] (.pv (.tuple #[qa3,iV 8])) 0 []) (c7:Fn 22 7 [.ag [.pv (iV 1),.pv (iV 1),.ls 0 3,.pv (iV x),.ls 1 l.length,.ls 2 u.length,.ls 3 b.length,.ls 4 fr.length,.ls 5 ev.length,.ls 6 wh.length,.pv (.slice none 0 0)]] (qwG b ev fr l u wh) (.pv (iV (8))) 0 []) {e:Exit} {tm2:TmL} {hp2:HpL}
 (r:Rl 0 0 3 0 392 15 ([(2,.pv (iV 4)),(4,.pv (iV 8)),(5,.pp 14 0),(7,.pv (iV 4))]) (qg7 b ev fr l qa qb u wh x) e tm2 hp2):Rl 0 0 3 0 392 15 ([(2,.pv (iV 4)),(4,.pv (iV 8)),(5,.pp 14 0),(7,.pv (iV 3))]) (qg7 b ev fr l qa qb u wh x) e tm2 hp2:=
 RunsL.next [] 500 [.k,Cf htw [6,7,8,9,10,11,12,13],.k,.k,.k,.k,Cf c1 [15,16,17,18,19,20,21],Cf c2 [15,16,17,18,19,20,21],Cf c3 [15,16,17,18,19,20,21],Cf c4 [15,16,17,18,19,20,21],Rf hat0,Cf c5 [15,16,17,18,19,20,21],.md,Cf c6 [15,16,17,18,19,20,21,31],Cf c7 [15,16,17,18,19,20,21],.k,.k,.k,.k,.k,.k,.k,.k]
  (Ro (Co htw [6,7,8,9,10,11,12,13] 15 (Co c1 [15,16,17,18,19,20,21] 24 (Co c2 [15,16,17,18,19,20,21] 25 (Co c3 [15,16,17,18,19,20,21] 26 (Co c4 [15,16,17,18,19,20,21] 27 (Ai hat0 (Co c5 [15,16,17,18,19,20,21] 30 (Ai (show (0:Int)≤65 from by decide) (Ai (Eq.refl (65:Int)) (Ai (show (65:Int)≤1000000 from by decide) (Co c6 [15,16,17,18,19,20,21,31] 32 (Co c7 [15,16,17,18,19,20,21] 33 tI))))))))))))) r
theorem qFD {x:Int} {l:List Pt} {u fr wh:List Int} {b:List Bool} {ev:List Ev} {qa qb:Int} (htw:qtX b ev fr l qa qb u wh x) (c1:Fn 16 8 [qam ({ (nmK x l u b fr ev wh qa qb) with d:=[⟨1,qa,qb⟩] }:Ck),.pv (qaf 0 0)] (qas ({ (nmK x l u b fr ev wh qa qb) with d:=[⟨1,qa,qb⟩] }:Ck)) (.pv (.tuple #[qa3,iV 0,iV 8])) 0 []) (c2:Fn 17 8 [qam ({ (nmK x l u b fr ev wh qa qb) with d:=[⟨1,qa,qb⟩] }:Ck),.pv (iV (9))] (qas ({ (nmK x l u b fr ev wh qa qb) with d:=[⟨1,qa,qb⟩] }:Ck)) (.pv (.tuple #[qa3,iV 8])) 0 []) (c3:Fn 18 8 [qam ({ (nmK x l u b fr ev wh qa qb) with d:=[⟨1,qa,qb⟩] }:Ck)] (qas ({ (nmK x l u b fr ev wh qa qb) with d:=[⟨1,qa,qb⟩] }:Ck)) (.pv (.tuple #[.agg #[iV 0,iV 0,iV 0,iV 0,iV 0],iV 8])) 0 []) (c4:Fn 19 8 [qam ({ (nmK x l u b fr ev wh qa qb) with d:=[⟨1,qa,qb⟩] }:Ck),.pv (qaa 0 0)] (qas ({ (nmK x l u b fr ev wh qa qb) with d:=[⟨1,qa,qb⟩] }:Ck)) (.pv (.tuple #[qa3,.agg #[iV 0,iV 0,iV 0,iV 0,iV 0],qaf 0 0,iV 8])) 0 []) (hat0:qsn) (c5:Fn 20 8 [qam ({ (nmK x l u b fr ev wh qa qb) with d:=[⟨1,qa,qb⟩] }:Ck),.pv (qaa 0 1)] (qas ({ (nmK x l u b fr ev wh qa qb) with d:=[⟨1,qa,qb⟩] }:Ck)) (.pv (.tuple #[qa3,iV 8])) 0 []) (c6:Fn 21 9 [qam ({ (nmK x l u b fr ev wh qa qb) with d:=[⟨1,qa,qb⟩] }:Ck),qaE 8 qft] [(0,0,qaj ({ (nmK x l u b fr ev wh qa qb) with d:=[⟨1,qa,qb⟩] }:Ck).s),(1,0,qal ({ (nmK x l u b fr ev wh qa qb) with d:=[⟨1,qa,qb⟩] }:Ck).l),(2,0,zrI ({ (nmK x l u b fr ev wh qa qb) with d:=[⟨1,qa,qb⟩] }:Ck).u),(3,0,zrB ({ (nmK x l u b fr ev wh qa qb) with d:=[⟨1,qa,qb⟩] }:Ck).b),(4,0,zrI ({ (nmK x l u b fr ev wh qa qb) with d:=[⟨1,qa,qb⟩] }:Ck).fr),(5,0,qao ({ (nmK x l u b fr ev wh qa qb) with d:=[⟨1,qa,qb⟩] }:Ck).ev),(6,0,zrI ({ (nmK x l u b fr ev wh qa qb) with d:=[⟨1,qa,qb⟩] }:Ck).wh),(7,0,qaJ ({ (nmK x l u b fr ev wh qa qb) with d:=[⟨1,qa,qb⟩] }:Ck).d),(8,0,qaj qft)] (.pv (.tuple #[qa3,iV 8])) 0 []) (c7:Fn 22 8 [qam ({ (nmK x l u b fr ev wh qa qb) with d:=[⟨1,qa,qb⟩] }:Ck)] (qas ({ (nmK x l u b fr ev wh qa qb) with d:=[⟨1,qa,qb⟩] }:Ck)) (.pv (iV (8))) 0 []) {e:Exit} {tm2:TmL} {hp2:HpL}
 (r:Rl 0 0 3 0 392 15 ([(2,.pv (iV 4)),(4,.pv (iV 8)),(5,.pp 14 0),(7,.pv (iV 5))]) (qg7 b ev fr l qa qb u wh x) e tm2 hp2):Rl 0 0 3 0 392 15 ([(2,.pv (iV 4)),(4,.pv (iV 8)),(5,.pp 14 0),(7,.pv (iV 4))]) (qg7 b ev fr l qa qb u wh x) e tm2 hp2:=
 RunsL.next [] 500 [.k,Cf htw [6,7,8,9,10,11,12,13],.k,.k,.k,.k,.k,.w (qbd [⟨1,qa,qb⟩]),Cf c1 [15,16,17,18,19,20,21,22],Cf c2 [15,16,17,18,19,20,21,22],Cf c3 [15,16,17,18,19,20,21,22],Cf c4 [15,16,17,18,19,20,21,22],Rf hat0,Cf c5 [15,16,17,18,19,20,21,22],.md,Cf c6 [15,16,17,18,19,20,21,22,31],Cf c7 [15,16,17,18,19,20,21,22],.k,.k,.k,.k,.k,.k,.k,.k]
  (Ro (Co htw [6,7,8,9,10,11,12,13] 15 (Ai (show 0≤(0:Int)∧(0:Int)<1 from by decide) (Ai (qy9 (l:=[⟨0,qa,qb⟩]) (k:=0) rfl 1) (Ai (show 0*3+0*3+0+1≤3 from by decide) (Co c1 [15,16,17,18,19,20,21,22] 24 (Co c2 [15,16,17,18,19,20,21,22] 25 (Co c3 [15,16,17,18,19,20,21,22] 26 (Co c4 [15,16,17,18,19,20,21,22] 27 (Ai hat0 (Co c5 [15,16,17,18,19,20,21,22] 30 (Ai (show (0:Int)≤65 from by decide) (Ai (Eq.refl (65:Int)) (Ai (show (65:Int)≤1000000 from by decide) (Co c6 [15,16,17,18,19,20,21,22,31] 32 (Co c7 [15,16,17,18,19,20,21,22] 33 tI)))))))))))))))) r
theorem qE4 {x:Int} {l:List Pt} {u fr wh:List Int} {b:List Bool} {ev:List Ev} {qa qb:Int} (htw:qtX b ev fr l qa qb u wh x) (hbg:Fn 15 0 [.pv (iV (200))] [] (.ag [.ls 0 (List.replicate 200 (0:Int)).length,.ls 1 (List.replicate 200 false).length,.ls 2 (qaS 200).length,.ls 4 0,.ls 3 (List.replicate 200 (-1:Int)).length]) 5 [(0,0,zrI (List.replicate 200 0)),(1,0,zrB (List.replicate 200 false)),(2,0,zrI (qaS 200)),(3,0,zrI (List.replicate 200 (-1))),(4,0,qao [])]) (c1:Fn 16 8 [qam ({ (nmK x l u b fr ev wh qa qb) with u:=List.replicate 200 0,b:=List.replicate 200 false,fr:=qaS 200,ev:=[],wh:=List.replicate 200 (-1) }:Ck),.pv (qaf 0 0)] (qas ({ (nmK x l u b fr ev wh qa qb) with u:=List.replicate 200 0,b:=List.replicate 200 false,fr:=qaS 200,ev:=[],wh:=List.replicate 200 (-1) }:Ck)) (.pv (.tuple #[qa3,iV 0,iV 8])) 0 []) (c2:Fn 17 8 [qam ({ (nmK x l u b fr ev wh qa qb) with u:=List.replicate 200 0,b:=List.replicate 200 false,fr:=qaS 200,ev:=[],wh:=List.replicate 200 (-1) }:Ck),.pv (iV (9))] (qas ({ (nmK x l u b fr ev wh qa qb) with u:=List.replicate 200 0,b:=List.replicate 200 false,fr:=qaS 200,ev:=[],wh:=List.replicate 200 (-1) }:Ck)) (.pv (.tuple #[qa3,iV 8])) 0 []) (c3:Fn 18 8 [qam ({ (nmK x l u b fr ev wh qa qb) with u:=List.replicate 200 0,b:=List.replicate 200 false,fr:=qaS 200,ev:=[],wh:=List.replicate 200 (-1) }:Ck)] (qas ({ (nmK x l u b fr ev wh qa qb) with u:=List.replicate 200 0,b:=List.replicate 200 false,fr:=qaS 200,ev:=[],wh:=List.replicate 200 (-1) }:Ck)) (.pv (.tuple #[.agg #[iV 0,iV 0,iV 0,iV 0,iV 0],iV 8])) 0 []) (c4:Fn 19 8 [qam ({ (nmK x l u b fr ev wh qa qb) with u:=List.replicate 200 0,b:=List.replicate 200 false,fr:=qaS 200,ev:=[],wh:=List.replicate 200 (-1) }:Ck),.pv (qaa 0 0)] (qas ({ (nmK x l u b fr ev wh qa qb) with u:=List.replicate 200 0,b:=List.replicate 200 false,fr:=qaS 200,ev:=[],wh:=List.replicate 200 (-1) }:Ck)) (.pv (.tuple #[qa3,.agg #[iV 0,iV 0,iV 0,iV 0,iV 0],qaf 0 0,iV 8])) 0 []) (hat0:qsn) (c5:Fn 20 8 [qam ({ (nmK x l u b fr ev wh qa qb) with u:=List.replicate 200 0,b:=List.replicate 200 false,fr:=qaS 200,ev:=[],wh:=List.replicate 200 (-1) }:Ck),.pv (qaa 0 1)] (qas ({ (nmK x l u b fr ev wh qa qb) with u:=List.replicate 200 0,b:=List.replicate 200 false,fr:=qaS 200,ev:=[],wh:=List.replicate 200 (-1) }:Ck)) (.pv (.tuple #[qa3,iV 8])) 0 []) (c6:Fn 21 9 [qam ({ (nmK x l u b fr ev wh qa qb) with u:=List.replicate 200 0,b:=List.replicate 200 false,fr:=qaS 200,ev:=[],wh:=List.replicate 200 (-1) }:Ck),qaE 8 qft] [(0,0,qaj ({ (nmK x l u b fr ev wh qa qb) with u:=List.replicate 200 0,b:=List.replicate 200 false,fr:=qaS 200,ev:=[],wh:=List.replicate 200 (-1) }:Ck).s),(1,0,qal ({ (nmK x l u b fr ev wh qa qb) with u:=List.replicate 200 0,b:=List.replicate 200 false,fr:=qaS 200,ev:=[],wh:=List.replicate 200 (-1) }:Ck).l),(2,0,zrI ({ (nmK x l u b fr ev wh qa qb) with u:=List.replicate 200 0,b:=List.replicate 200 false,fr:=qaS 200,ev:=[],wh:=List.replicate 200 (-1) }:Ck).u),(3,0,zrB ({ (nmK x l u b fr ev wh qa qb) with u:=List.replicate 200 0,b:=List.replicate 200 false,fr:=qaS 200,ev:=[],wh:=List.replicate 200 (-1) }:Ck).b),(4,0,zrI ({ (nmK x l u b fr ev wh qa qb) with u:=List.replicate 200 0,b:=List.replicate 200 false,fr:=qaS 200,ev:=[],wh:=List.replicate 200 (-1) }:Ck).fr),(5,0,qao ({ (nmK x l u b fr ev wh qa qb) with u:=List.replicate 200 0,b:=List.replicate 200 false,fr:=qaS 200,ev:=[],wh:=List.replicate 200 (-1) }:Ck).ev),(6,0,zrI ({ (nmK x l u b fr ev wh qa qb) with u:=List.replicate 200 0,b:=List.replicate 200 false,fr:=qaS 200,ev:=[],wh:=List.replicate 200 (-1) }:Ck).wh),(7,0,qaJ ({ (nmK x l u b fr ev wh qa qb) with u:=List.replicate 200 0,b:=List.replicate 200 false,fr:=qaS 200,ev:=[],wh:=List.replicate 200 (-1) }:Ck).d),(8,0,qaj qft)] (.pv (.tuple #[qa3,iV 8])) 0 []) (c7:Fn 22 8 [qam ({ (nmK x l u b fr ev wh qa qb) with u:=List.replicate 200 0,b:=List.replicate 200 false,fr:=qaS 200,ev:=[],wh:=List.replicate 200 (-1) }:Ck)] (qas ({ (nmK x l u b fr ev wh qa qb) with u:=List.replicate 200 0,b:=List.replicate 200 false,fr:=qaS 200,ev:=[],wh:=List.replicate 200 (-1) }:Ck)) (.pv (iV (8))) 0 []) {e:Exit} {tm2:TmL} {hp2:HpL}
 (r:Rl 0 0 3 0 392 15 ([(2,.pv (iV 4)),(4,.pv (iV 8)),(5,.pp 14 0),(7,.pv (iV 6))]) (qg7 b ev fr l qa qb u wh x) e tm2 hp2):Rl 0 0 3 0 392 15 ([(2,.pv (iV 4)),(4,.pv (iV 8)),(5,.pp 14 0),(7,.pv (iV 5))]) (qg7 b ev fr l qa qb u wh x) e tm2 hp2:=
 RunsL.next [] 500 [.k,Cf htw [6,7,8,9,10,11,12,13],.k,.k,.k,.k,.k,.k,Cf hbg [],Cf c1 [15,16,24,25,26,28,27,22],Cf c2 [15,16,24,25,26,28,27,22],Cf c3 [15,16,24,25,26,28,27,22],Cf c4 [15,16,24,25,26,28,27,22],Rf hat0,Cf c5 [15,16,24,25,26,28,27,22],.md,Cf c6 [15,16,24,25,26,28,27,22,36],Cf c7 [15,16,24,25,26,28,27,22],.k,.k,.k,.k,.k,.k,.k,.k]
  (Ro (Co htw [6,7,8,9,10,11,12,13] 15 (Co hbg [] 24 (Co c1 [15,16,24,25,26,28,27,22] 29 (Co c2 [15,16,24,25,26,28,27,22] 30 (Co c3 [15,16,24,25,26,28,27,22] 31 (Co c4 [15,16,24,25,26,28,27,22] 32 (Ai hat0 (Co c5 [15,16,24,25,26,28,27,22] 35 (Ai (show (0:Int)≤65 from by decide) (Ai (Eq.refl (65:Int)) (Ai (show (65:Int)≤1000000 from by decide) (Co c6 [15,16,24,25,26,28,27,22,36] 37 (Co c7 [15,16,24,25,26,28,27,22] 38 tI)))))))))))))) r
theorem qE6 {x:Int} {l:List Pt} {u fr wh:List Int} {b:List Bool} {ev:List Ev} {qa qb:Int} (htw:qtX b ev fr l qa qb u wh x) (c1:Fn 16 8 [qam ({ (nmK x l u b fr ev wh qa qb) with s:=[⟨1,0,1⟩,⟨2,6,-1⟩,⟨5,0,0⟩] }:Ck),.pv (qaf 0 0)] (qas ({ (nmK x l u b fr ev wh qa qb) with s:=[⟨1,0,1⟩,⟨2,6,-1⟩,⟨5,0,0⟩] }:Ck)) (.pv (.tuple #[qa3,iV 0,iV 8])) 0 []) (c2:Fn 17 8 [qam ({ (nmK x l u b fr ev wh qa qb) with s:=[⟨1,0,1⟩,⟨2,6,-1⟩,⟨5,0,0⟩] }:Ck),.pv (iV (9))] (qas ({ (nmK x l u b fr ev wh qa qb) with s:=[⟨1,0,1⟩,⟨2,6,-1⟩,⟨5,0,0⟩] }:Ck)) (.pv (.tuple #[qa3,iV 8])) 0 []) (c3:Fn 18 8 [qam ({ (nmK x l u b fr ev wh qa qb) with s:=[⟨1,0,1⟩,⟨2,6,-1⟩,⟨5,0,0⟩] }:Ck)] (qas ({ (nmK x l u b fr ev wh qa qb) with s:=[⟨1,0,1⟩,⟨2,6,-1⟩,⟨5,0,0⟩] }:Ck)) (.pv (.tuple #[.agg #[iV 0,iV 0,iV 0,iV 0,iV 0],iV 8])) 0 []) (c4:Fn 19 8 [qam ({ (nmK x l u b fr ev wh qa qb) with s:=[⟨1,0,1⟩,⟨2,6,-1⟩,⟨5,0,0⟩] }:Ck),.pv (qaa 0 0)] (qas ({ (nmK x l u b fr ev wh qa qb) with s:=[⟨1,0,1⟩,⟨2,6,-1⟩,⟨5,0,0⟩] }:Ck)) (.pv (.tuple #[qa3,.agg #[iV 0,iV 0,iV 0,iV 0,iV 0],qaf 0 0,iV 8])) 0 []) (hat0:qsn) (c5:Fn 20 8 [qam ({ (nmK x l u b fr ev wh qa qb) with s:=[⟨1,0,1⟩,⟨2,6,-1⟩,⟨5,0,0⟩] }:Ck),.pv (qaa 0 1)] (qas ({ (nmK x l u b fr ev wh qa qb) with s:=[⟨1,0,1⟩,⟨2,6,-1⟩,⟨5,0,0⟩] }:Ck)) (.pv (.tuple #[qa3,iV 8])) 0 []) (c6:Fn 21 9 [qam ({ (nmK x l u b fr ev wh qa qb) with s:=[⟨1,0,1⟩,⟨2,6,-1⟩,⟨5,0,0⟩] }:Ck),qaE 8 qft] [(0,0,qaj ({ (nmK x l u b fr ev wh qa qb) with s:=[⟨1,0,1⟩,⟨2,6,-1⟩,⟨5,0,0⟩] }:Ck).s),(1,0,qal ({ (nmK x l u b fr ev wh qa qb) with s:=[⟨1,0,1⟩,⟨2,6,-1⟩,⟨5,0,0⟩] }:Ck).l),(2,0,zrI ({ (nmK x l u b fr ev wh qa qb) with s:=[⟨1,0,1⟩,⟨2,6,-1⟩,⟨5,0,0⟩] }:Ck).u),(3,0,zrB ({ (nmK x l u b fr ev wh qa qb) with s:=[⟨1,0,1⟩,⟨2,6,-1⟩,⟨5,0,0⟩] }:Ck).b),(4,0,zrI ({ (nmK x l u b fr ev wh qa qb) with s:=[⟨1,0,1⟩,⟨2,6,-1⟩,⟨5,0,0⟩] }:Ck).fr),(5,0,qao ({ (nmK x l u b fr ev wh qa qb) with s:=[⟨1,0,1⟩,⟨2,6,-1⟩,⟨5,0,0⟩] }:Ck).ev),(6,0,zrI ({ (nmK x l u b fr ev wh qa qb) with s:=[⟨1,0,1⟩,⟨2,6,-1⟩,⟨5,0,0⟩] }:Ck).wh),(7,0,qaJ ({ (nmK x l u b fr ev wh qa qb) with s:=[⟨1,0,1⟩,⟨2,6,-1⟩,⟨5,0,0⟩] }:Ck).d),(8,0,qaj qft)] (.pv (.tuple #[qa3,iV 8])) 0 []) (c7:Fn 22 8 [qam ({ (nmK x l u b fr ev wh qa qb) with s:=[⟨1,0,1⟩,⟨2,6,-1⟩,⟨5,0,0⟩] }:Ck)] (qas ({ (nmK x l u b fr ev wh qa qb) with s:=[⟨1,0,1⟩,⟨2,6,-1⟩,⟨5,0,0⟩] }:Ck)) (.pv (iV (8))) 0 []) {e:Exit} {tm2:TmL} {hp2:HpL}
 (r:Rl 0 0 3 0 392 15 ([(2,.pv (iV 4)),(4,.pv (iV 8)),(5,.pp 14 0),(7,.pv (iV 7))]) (qg7 b ev fr l qa qb u wh x) e tm2 hp2):Rl 0 0 3 0 392 15 ([(2,.pv (iV 4)),(4,.pv (iV 8)),(5,.pp 14 0),(7,.pv (iV 6))]) (qg7 b ev fr l qa qb u wh x) e tm2 hp2:=
 RunsL.next [] 500 [.k,Cf htw [6,7,8,9,10,11,12,13],.k,.k,.k,.k,.k,.k,.k,.w (qbd [⟨1,0,1⟩,⟨2,6,-1⟩,⟨5,0,0⟩]),Cf c1 [15,16,17,18,19,20,21,22],Cf c2 [15,16,17,18,19,20,21,22],Cf c3 [15,16,17,18,19,20,21,22],Cf c4 [15,16,17,18,19,20,21,22],Rf hat0,Cf c5 [15,16,17,18,19,20,21,22],.md,Cf c6 [15,16,17,18,19,20,21,22,31],Cf c7 [15,16,17,18,19,20,21,22],.k,.k,.k,.k,.k,.k,.k,.k]
  (Ro (Co htw [6,7,8,9,10,11,12,13] 15 (Ai (show 0≤(0:Int)∧(0:Int)<3 from by decide) (Ai (qy6 (l:=qa9 0) (k:=0) rfl 1) (Ai (show 0*3+0*3+2+1≤9 from by decide) (Co c1 [15,16,17,18,19,20,21,22] 24 (Co c2 [15,16,17,18,19,20,21,22] 25 (Co c3 [15,16,17,18,19,20,21,22] 26 (Co c4 [15,16,17,18,19,20,21,22] 27 (Ai hat0 (Co c5 [15,16,17,18,19,20,21,22] 30 (Ai (show (0:Int)≤65 from by decide) (Ai (Eq.refl (65:Int)) (Ai (show (65:Int)≤1000000 from by decide) (Co c6 [15,16,17,18,19,20,21,22,31] 32 (Co c7 [15,16,17,18,19,20,21,22] 33 tI)))))))))))))))) r
theorem quK {x:Int} {l:List Pt} {u fr wh:List Int} {b:List Bool} {ev:List Ev} {qa qb:Int}:Rl 0 0 3 0 392 15 ([(2,.pv (iV 4)),(4,.pv (iV 8)),(5,.pp 14 0),(7,.pv (iV 7))]) (qg7 b ev fr l qa qb u wh x) (.exit 0) ([(2,.pv (iV 4)),(4,.pv (iV 8)),(5,.pp 14 0)]) (qg7 b ev fr l qa qb u wh x):=
 RunsL.stop [] 300 [.k] (fun h=>by cases h)
  (Ro tI)
theorem qsR {x:Int} {l:List Pt} {u fr wh:List Int} {b:List Bool} {ev:List Ev} {qa qb:Int} {o w:Ck} {y:Ev} (a1:Fn 10 1 [qaE 0 qft,.pv (qaa 0 0)] [(0,0,qaj qft)] (.pv (.tuple #[qa3,iV 4])) 0 []) (hg:Fn 11 0 [.pv (iV (0))] [] (.ag [.ls 0 3]) 1 [(0,0,qaj (qa9 0))]) (a2:Fn 10 1 [qaE 0 (qa9 0),.pv (qaa 0 0)] [(0,0,qaj (qa9 0))] (.pv (.tuple #[qa3,iV 8])) 0 []) (hat1:Pure Tryz.prog 13 #[iV 1] (qaa 1 1)) (hce:Fn 12 2 [qaE 0 (qa9 0),.pv (qaa 1 1),.ls 1 2] [(0,0,qaj (qa9 0)),(1,0,qrQ [P2.mk 1 2,P2.mk 5 1])] (.tu [qBq (nmK x l u b fr ev wh qa qb),.one (.pv (.bool true))]) 8 [(2,0,qaj (qa9 0)),(3,0,qal l),(4,0,zrI u),(5,0,zrB b),(6,0,zrI fr),(7,0,qao ev),(8,0,zrI wh),(9,0,qaJ [⟨0,qa,qb⟩])]) (r0:Rl 0 0 3 0 392 15 ([(2,.pv (iV 4)),(4,.pv (iV 8)),(5,.pp 14 0),(7,.pv (iV 0))]) (qg7 b ev fr l qa qb u wh x) (.exit 0) ([(2,.pv (iV 4)),(4,.pv (iV 8)),(5,.pp 14 0)]) (qg7 b ev fr l qa qb u wh x)) (d1:Fn 16 8 [qam (nmK x l u b fr ev wh qa qb),.pv (qaf 9 9)] (qod b ev fr l qa qb u wh x) (.pv (.tuple #[qa3,iV 0,iV 8])) 0 []) (d2:Fn 16 8 [qam (nmK x l u b fr ev wh qa qb),.pv (qaf 9 1)] (qod b ev fr l qa qb u wh x) (.pv (.tuple #[qa3,iV 0,iV 6])) 0 []) (d3:Fn 16 8 [qam (nmK x l u b fr ev wh qa qb),.pv (qaf 1 2)] (qod b ev fr l qa qb u wh x) (.pv (.tuple #[qa3,iV 0,iV 14])) 0 []) (d4:Fn 16 8 [qam (nmK x l u b fr ev wh qa qb),.pv (qaf 2 1)] (qod b ev fr l qa qb u wh x) (.tu [qg6 o,.one (.pv (iV 2)),.one (.pv (iV 0))]) 8 (qc9 o)) (d5:Fn 18 8 [qam o] (qas o) (.pv (.tuple #[qab y,iV 0])) 0 []) (d6:Fn 17 8 [qam (nmK x l u b fr ev wh qa qb),.pv (iV (2))] (qod b ev fr l qa qb u wh x) (.pv (.tuple #[qa3,iV 6])) 0 []) (hat0:qsn) (d7:Fn 20 8 [qam (nmK x l u b fr ev wh qa qb),.pv (qaa 0 1)] (qod b ev fr l qa qb u wh x) (.pv (.tuple #[qa3,iV 44])) 0 []) (d8:Fn 20 8 [qam (nmK x l u b fr ev wh qa qb),.pv (qaa 2 2)] (qod b ev fr l qa qb u wh x) (.pv (.tuple #[qa3,iV 8])) 0 []) (d9:Fn 19 8 [qam (nmK x l u b fr ev wh qa qb),.pv (qaa 0 1)] (qod b ev fr l qa qb u wh x) (.pv (.tuple #[qa3,.agg #[iV 0,iV 0,iV 0,iV 0,iV 0],qaf 0 0,iV 44])) 0 []) (e1:Fn 19 8 [qam (nmK x l u b fr ev wh qa qb),.pv (qaa 0 0)] (qod b ev fr l qa qb u wh x) (.pv (.tuple #[qa3,.agg #[iV 0,iV 0,iV 0,iV 0,iV 0],qaf 0 0,iV 8])) 0 []) (e2:Fn 10 1 [qaE 0 (qa9 0),.pv (qaa 1 1)] [(0,0,qaj (qa9 0))] (.tu [.ag [.pv (iV 1),.pv (iV 1),.ls 1 3,.pv (iV 0),.ls 7 0,.ls 2 w.u.length,.ls 3 w.b.length,.ls 4 w.fr.length,.ls 6 0,.ls 5 w.wh.length,.ls 8 0],.one (.pv (iV 0))]) 8 [(8,0,qaJ []),(7,0,qal []),(1,0,qaj (qa9 0)),(2,0,zrI w.u),(3,0,zrB w.b),(4,0,zrI w.fr),(5,0,zrI w.wh),(6,0,qao [])]) (e3:Fn 18 8 [qam (Ck.mk 1 1 (qa9 0) 0 [] w.u w.b w.fr [] w.wh [])] [(0,0,qaj (Ck.mk 1 1 (qa9 0) 0 [] w.u w.b w.fr [] w.wh []).s),(1,0,qal (Ck.mk 1 1 (qa9 0) 0 [] w.u w.b w.fr [] w.wh []).l),(2,0,zrI (Ck.mk 1 1 (qa9 0) 0 [] w.u w.b w.fr [] w.wh []).u),(3,0,zrB (Ck.mk 1 1 (qa9 0) 0 [] w.u w.b w.fr [] w.wh []).b),(4,0,zrI (Ck.mk 1 1 (qa9 0) 0 [] w.u w.b w.fr [] w.wh []).fr),(5,0,qao (Ck.mk 1 1 (qa9 0) 0 [] w.u w.b w.fr [] w.wh []).ev),(6,0,zrI (Ck.mk 1 1 (qa9 0) 0 [] w.u w.b w.fr [] w.wh []).wh),(7,0,qaJ (Ck.mk 1 1 (qa9 0) 0 [] w.u w.b w.fr [] w.wh []).d)] (.pv (.tuple #[.agg #[iV 0,iV 0,iV 0,iV 0,iV 0],iV 42])) 0 []) (e4:Fn 21 9 [qam (nmK x l u b fr ev wh qa qb),qaE 8 [⟨1,0,0⟩,⟨2,0,0⟩]] [(0,0,qaj (nmK x l u b fr ev wh qa qb).s),(1,0,qal (nmK x l u b fr ev wh qa qb).l),(2,0,zrI (nmK x l u b fr ev wh qa qb).u),(3,0,zrB (nmK x l u b fr ev wh qa qb).b),(4,0,zrI (nmK x l u b fr ev wh qa qb).fr),(5,0,qao (nmK x l u b fr ev wh qa qb).ev),(6,0,zrI (nmK x l u b fr ev wh qa qb).wh),(7,0,qaJ (nmK x l u b fr ev wh qa qb).d),(8,0,qaj [⟨1,0,0⟩,⟨2,0,0⟩])] (.pv (.tuple #[qa3,iV 6])) 0 []) (e5:Fn 21 9 [qam (nmK x l u b fr ev wh qa qb),qaE 8 [⟨2,0,0⟩,⟨1,0,0⟩]] [(0,0,qaj (nmK x l u b fr ev wh qa qb).s),(1,0,qal (nmK x l u b fr ev wh qa qb).l),(2,0,zrI (nmK x l u b fr ev wh qa qb).u),(3,0,zrB (nmK x l u b fr ev wh qa qb).b),(4,0,zrI (nmK x l u b fr ev wh qa qb).fr),(5,0,qao (nmK x l u b fr ev wh qa qb).ev),(6,0,zrI (nmK x l u b fr ev wh qa qb).wh),(7,0,qaJ (nmK x l u b fr ev wh qa qb).d),(8,0,qaj [⟨2,0,0⟩,⟨1,0,0⟩])] (.pv (.tuple #[qa3,iV 32])) 0 []) (e6:Fn 20 8 [qam (nmK x l u b fr ev wh qa qb),.pv (qaa 1 1)] (qod b ev fr l qa qb u wh x) (.tu [qg6 (nmK x l u b fr ev wh qa qb),.one (.pv (iV 0))]) 8 [(8,0,qaj (nmK x l u b fr ev wh qa qb).s),(9,0,qal (nmK x l u b fr ev wh qa qb).l),(10,0,zrI (nmK x l u b fr ev wh qa qb).u),(11,0,zrB (nmK x l u b fr ev wh qa qb).b),(12,0,zrI (nmK x l u b fr ev wh qa qb).fr),(13,0,qao (nmK x l u b fr ev wh qa qb).ev),(14,0,zrI (nmK x l u b fr ev wh qa qb).wh),(15,0,qaJ (nmK x l u b fr ev wh qa qb).d)]) (t1:(y.n==1&&(y.d==1&&true))=true) (t2:(y.k==2)=true) (e7:Fn 23 16 [qam (nmK x l u b fr ev wh qa qb),ql0 (nmK x l u b fr ev wh qa qb)] [(0,0,qaj (nmK x l u b fr ev wh qa qb).s),(1,0,qal (nmK x l u b fr ev wh qa qb).l),(2,0,zrI (nmK x l u b fr ev wh qa qb).u),(3,0,zrB (nmK x l u b fr ev wh qa qb).b),(4,0,zrI (nmK x l u b fr ev wh qa qb).fr),(5,0,qao (nmK x l u b fr ev wh qa qb).ev),(6,0,zrI (nmK x l u b fr ev wh qa qb).wh),(7,0,qaJ (nmK x l u b fr ev wh qa qb).d),(8,0,qaj (nmK x l u b fr ev wh qa qb).s),(9,0,qal (nmK x l u b fr ev wh qa qb).l),(10,0,zrI (nmK x l u b fr ev wh qa qb).u),(11,0,zrB (nmK x l u b fr ev wh qa qb).b),(12,0,zrI (nmK x l u b fr ev wh qa qb).fr),(13,0,qao (nmK x l u b fr ev wh qa qb).ev),(14,0,zrI (nmK x l u b fr ev wh qa qb).wh),(15,0,qaJ (nmK x l u b fr ev wh qa qb).d)] (.pv (.bool true)) 0 []) (hal:Pure Tryz.prog 24 #[] (.bool true)) :
 Fn 3 0 [] [] (.pv (.bool true)) 0 []:=
 qjk 1500 [] [Cf a1 [0],Cf hg [],Cf a2 [2],Cf hg [],Rf hat1,.lw,Cf hce [4,5],.k,.k,Lf r0,Cf d1 [6,7,8,9,10,11,12,13],Cf d2 [6,7,8,9,10,11,12,13],Cf d3 [6,7,8,9,10,11,12,13],Cf d4 [6,7,8,9,10,11,12,13],Cf d5 [18,19,20,21,22,23,24,25],Cf d6 [6,7,8,9,10,11,12,13],Rf hat0,Cf d7 [6,7,8,9,10,11,12,13],Cf d8 [6,7,8,9,10,11,12,13],Rf hat0,Cf d9 [6,7,8,9,10,11,12,13],Cf e1 [6,7,8,9,10,11,12,13],Cf hg [],Rf hat1,Cf e2 [37],Cf e3 [38,44,39,40,41,43,42,45],.lw,Cf e4 [6,7,8,9,10,11,12,13,48],.lw,Cf e5 [6,7,8,9,10,11,12,13,50],.md,Rf hat1,Cf e6 [6,7,8,9,10,11,12,13],.k,.k,.k,.k,.k,.k,.k,.k,Rf hat1,.t true,.t true,.k,.k,.k,.k,.k,.k,.k,.k,.k,.k,Cf e7 [52,53,54,55,56,57,58,59,6,7,8,9,10,11,12,13],Rf hal]
  tI (Ai (show (0:Int)≤65 from by decide) (Ai (Eq.refl (65:Int)) (Ai (show (65:Int)≤1000000 from by decide) (Co a1 [0] 1 (Co hg [] 2 (Co a2 [2] 3 (Co hg [] 4 (Ai hat1 (Co hce [4,5] 6 (Lo r0 [] (Co d1 [6,7,8,9,10,11,12,13] 15 (Co d2 [6,7,8,9,10,11,12,13] 16 (Co d3 [6,7,8,9,10,11,12,13] 17 (Co d4 [6,7,8,9,10,11,12,13] 18 (Co d5 [18,19,20,21,22,23,24,25] 27 (Co d6 [6,7,8,9,10,11,12,13] 28 (Ai hat0 (Co d7 [6,7,8,9,10,11,12,13] 29 (Co d8 [6,7,8,9,10,11,12,13] 30 (Ai hat0 (Co d9 [6,7,8,9,10,11,12,13] 31 (Co e1 [6,7,8,9,10,11,12,13] 34 (Co hg [] 37 (Ai hat1 (Co e2 [37] 38 (Co e3 [38,44,39,40,41,43,42,45] 47 (Co e4 [6,7,8,9,10,11,12,13,48] 49 (Co e5 [6,7,8,9,10,11,12,13,50] 51 (Ai hat1 (Co e6 [6,7,8,9,10,11,12,13] 52 (Ai hat1 (Ai t1 (Ai t2 (Co e7 [52,53,54,55,56,57,58,59,6,7,8,9,10,11,12,13] 61 (Ai hal tI))))))))))))))))))))))))))))))))))) (by kernel_rfl)
end Go.Proofs.YtkjaanhddkkodaaGreat

namespace Go.Proofs.YtkjaanhddkkodaaGreat
set_option maxRecDepth 100000
open Go.RowKit
abbrev alZ:List (Nat×Nat×SV):=[(11,0,.pv (iV 0)),(11,1,.pv (iV 0)),(11,2,.pv (.slice none 0 0)),(11,3,.pv (iV 0)),(11,4,.pv (.slice none 0 0)),(11,5,.pv (.slice none 0 0)),(11,6,.pv (.slice none 0 0)),(11,7,.pv (.slice none 0 0)),(11,8,.pv (.slice none 0 0)),(11,9,.pv (.slice none 0 0)),(11,10,.pv (.slice none 0 0))]
inductive AlStep (c:Ck) (s:List Pt) (p:Pt) (o:Ck):Ck→Prop where
 | key {j k:Nat} {q:Pt} {y:Ev} (f:(qae s c.tn c.td p).2.2=true) (hq:c.d[j]?=some q) (he:q.id=p.id) (hf:∀ (i:Nat) (p':Pt),i<j→c.d[i]?=some p'→p'.id≠p.id) (hy:o.ev[k]?=some y) (e1:y.i=q.a) (e2:y.w=q.b) :
  AlStep c s p o { o with ev:=(qa0 o.ev o.wh k y (qae s c.tn c.td p).1 (qae s c.tn c.td p).2.1).1,wh:=(qa0 o.ev o.wh k y (qae s c.tn c.td p).1 (qae s c.tn c.td p).2.1).2,d:=o.d++[q] }
 | push {u2 f2:List Int} {b2:List Bool} {hi hw:Int} (f:(qae s c.tn c.td p).2.2=true) (hn:∀ q∈c.d,q.id≠p.id) (ht:qbD o.u o.b o.fr=some (u2,b2,f2,hi,hw)) :
  AlStep c s p o { o with u:=u2,b:=b2,fr:=f2,ev:=(qba o.ev o.wh ⟨(qae s c.tn c.td p).1,(qae s c.tn c.td p).2.1,p.id,hi,hw⟩).1,wh:=(qba o.ev o.wh ⟨(qae s c.tn c.td p).1,(qae s c.tn c.td p).2.1,p.id,hi,hw⟩).2,d:=o.d++[⟨p.id,hi,hw⟩] }
 | gone {j k:Nat} {q:Pt} {y:Ev} (f:(qae s c.tn c.td p).2.2=false) (hq:c.d[j]?=some q) (he:q.id=p.id) (hf:∀ (i:Nat) (p':Pt),i<j→c.d[i]?=some p'→p'.id≠p.id) (hy:o.ev[k]?=some y) (e1:y.i=q.a) (e2:y.w=q.b) :
  AlStep c s p o { o with b:=o.b.set y.i.toNat false,fr:=o.fr++[y.i],ev:=(qan o.ev o.wh k y).1,wh:=(qan o.ev o.wh k y).2 }
 | skip (f:(qae s c.tn c.td p).2.2=false) (hn:∀ q∈c.d,q.id≠p.id):AlStep c s p o o
def qsl (c:Ck) (s:List Pt) (p:Pt) (o:Ck):Prop:=(qae s c.tn c.td p).2.2=true∧(∀ q∈c.d,q.id≠p.id)∧qbD o.u o.b o.fr=none
inductive AlRun (c:Ck) (s:List Pt):List Pt→Ck→Option Ck→Prop where
 | nil (o:Ck):AlRun c s [] o (some o)
 | step {p:Pt} {l:List Pt} {o o2:Ck} {r:Option Ck}:AlStep c s p o o2→AlRun c s l o2 r→AlRun c s (p::l) o r
 | full {p:Pt} {l:List Pt} {o:Ck}:qsl c s p o→AlRun c s (p::l) o none
structure AlInv (c:Ck) (l:List Pt) (o:Ck):Prop where
 a:VA o.u o.b o.fr o.ev o.wh
 lv:∀ p∈l,∀ q∈c.d,q.id=p.id→Live o.u o.b q.a q.b
 nw:∀ y∈o.ev,∀ p∈l,(∀ q∈c.d,q.id≠p.id)→y.k≠p.id
 sz:o.d.length+l.length≤1000
 w:o.wh.length=200
structure AlPre (c:Ck) (s:List Pt):Prop where
 S:S9 c
 V:V9 c
 sv:Val s
 kn:qcQ c.l s
theorem qth {c:Ck} (V:V9 c) {q q':Pt} (hq:q∈c.d) (hq':q'∈c.d) (h:q.id≠q'.id):q.a≠q'.a:=by
 intro e
 obtain⟨p,_,_,y,d1⟩:=V.f.some q hq
 obtain⟨p',_,_,y',d2⟩:=V.f.some q' hq'
 obtain⟨w,w1,w2⟩:=d1.at_
 obtain⟨w',w1',w2'⟩:=d2.at_
 rw[e,w1'] at w1
 have e2:(w':Int)=(w:Int):=Option.some.inj w1
 have e3:w'=w:=by omega
 subst e3
 rw[w2] at w2'
 have e4:y=y':=Option.some.inj w2'
 subst e4
 exact h (d1.id.trans (d1.k.symm.trans (d2.k.trans d2.id.symm)))
theorem qle {c:Ck} (V:V9 c) {i j:Nat} {q q':Pt} (hq:c.d[i]?=some q) (hq':c.d[j]?=some q') (h:q.id=q'.id):i=j:=by
 have nd:=V.due_nodup
 rw[List.nodup_iff_pairwise_ne,List.pairwise_iff_getElem] at nd
 have hi:=qak hq
 have hj:=qak hq'
 obtain⟨_,e1⟩:=List.getElem?_eq_some_iff.1 hq
 obtain⟨_,e2⟩:=List.getElem?_eq_some_iff.1 hq'
 rcases Nat.lt_trichotomy i j with hij | hij | hij
 ·have:=nd i j (by simpa using hi) (by simpa using hj) hij
  rw[List.getElem_map,List.getElem_map,e1,e2] at this
  exact (this h).elim
 ·exact hij
 ·have:=nd j i (by simpa using hj) (by simpa using hi) hij
  rw[List.getElem_map,List.getElem_map,e1,e2] at this
  exact (this h.symm).elim
theorem qw3 (c:Ck) (n:Int):(∀ q∈c.d,q.id≠n)∨∃ (j:Nat) (q:Pt),c.d[j]?=some q∧q.id=n∧∀ (i:Nat) (p:Pt),i<j→c.d[i]?=some p→p.id≠n:=by
 rcases qaY (fun k=>∀ q,c.d[k]?=some q→q.id≠n) c.d.length with h | ⟨k,hk,hb,hf⟩
 ·refine Or.inl fun q hq=>?_
  obtain⟨k,hk⟩:=List.getElem?_of_mem hq
  exact h k (qak hk) q hk
 ·simp only[Classical.not_forall,Classical.not_not] at hb
  obtain⟨q,hq,he⟩:=hb
  exact Or.inr ⟨k,q,hq,he,fun i p hi hp=>hf i hi p hp⟩
theorem AlPre.fail {c:Ck} {s:List Pt} (P:AlPre c s) {p:Pt} (hp:p∈c.l):FailT s c.tn c.td p:=qbs P.S.tn P.S.td P.V.t P.sv (P.V.v.ok p hp) (P.kn p hp).1 (P.kn p hp).2
theorem AlStep.inv {c:Ck} {s:List Pt} (P:AlPre c s) {p:Pt} {l:List Pt} {o o2:Ck} (hp:p∈c.l) (hu:∀ p'∈l,p'.id≠p.id) (I:AlInv c (p::l) o) (h:AlStep c s p o o2):AlInv c l o2:=by
 have F:=P.fail hp
 have sz:=I.sz
 rw[List.length_cons] at sz
 have wl:=I.w
 have l0:=I.a.lens
 cases h with
 | @key j k q y f hq he hf hy e1 e2=>
  obtain⟨k1,k2,k3,_⟩:=F.i.ok f
  obtain⟨A,pm⟩:=VA.rekey ⟨k2,k3⟩ k1 I.a hy
  have l1:=A.lens
  refine⟨A,fun p' hp'=>I.lv p' (List.mem_cons_of_mem _ hp'),fun y2 hy2 p' hp' hn=>?_,by simp;omega,by show (qa0 _ _ _ _ _ _).2.length=200;omega⟩
  rcases List.mem_or_eq_of_mem_set (pm.mem_iff.1 hy2) with h | h
  ·exact I.nw y2 h p' (List.mem_cons_of_mem _ hp') hn
  ·rw[h]
   exact I.nw y (List.mem_of_getElem? hy) p' (List.mem_cons_of_mem _ hp') hn
 | @push u2 f2 b2 hi hw f hn ht=>
  obtain⟨k1,k2,k3,_⟩:=F.i.ok f
  have hz:cnE o.ev p.id=0:=by
   have h1:=P.V.v.lo p hp
   have h2:=P.V.v.hi p hp
   have h3:=P.V.v.nx
   unfold cnE
   rw[if_pos (by omega),if_neg]
   rintro⟨m,hm,e⟩
   exact I.nw m hm p List.mem_cons_self hn e
  obtain⟨A,pm,_,lvp⟩:=VA.push ⟨k2,k3⟩ k1 I.a hz ht
  have l1:=A.lens
  obtain⟨_,_,_,_,eu,_,_,_⟩:=qbp ht
  have lu:u2.length=o.u.length:=by rw[eu,List.length_set]
  refine⟨A,fun p' hp' q' hq' he'=>lvp _ _ (I.lv p' (List.mem_cons_of_mem _ hp') q' hq' he'),fun y2 hy2 p' hp' hn'=>?_,by simp;omega,by show (qba _ _ _).2.length=200;omega⟩
  rcases List.mem_append.1 (pm.mem_iff.1 hy2) with h | h
  ·exact I.nw y2 h p' (List.mem_cons_of_mem _ hp') hn'
  ·rw[List.mem_singleton.1 h]
   exact fun e=>hu p' hp' e.symm
 | @gone j k q y f hq he hf hy e1 e2=>
  obtain⟨A,pm,lvw⟩:=VA.without I.a hy
  have l1:=A.lens
  refine⟨A,fun p' hp' q' hq' he'=>(lvw _ _).2 ⟨I.lv p' (List.mem_cons_of_mem _ hp') q' hq' he',?_⟩,fun y2 hy2 p' hp' hn'=>I.nw y2 (pm.mem_iff.1 (List.mem_append_left _ hy2)) p' (List.mem_cons_of_mem _ hp') hn',by show o.d.length+l.length≤1000;omega,by show (qan _ _ _ _).2.length=200;omega⟩
  rw[e1]
  exact qth P.V hq' (List.mem_of_getElem? hq) (by have:=hu p' hp';omega)
 | skip f hn=>exact⟨I.a,fun p' hp'=>I.lv p' (List.mem_cons_of_mem _ hp'),fun y hy p' hp'=>I.nw y hy p' (List.mem_cons_of_mem _ hp'),by omega,I.w⟩
theorem qlx {c:Ck} {s:List Pt} {p:Pt} {l:List Pt} {o:Ck} (I:AlInv c (p::l) o):qsl c s p o∨∃ o2,AlStep c s p o o2:=by
 rcases qw3 c p.id with hn | ⟨j,q,hq,he,hf⟩
 ·cases f:(qae s c.tn c.td p).2.2
  ·exact Or.inr ⟨_,.skip f hn⟩
  ·cases ht:qbD o.u o.b o.fr with
   | none=>exact Or.inl ⟨f,hn,ht⟩
   | some z=>
    obtain⟨u2,b2,f2,hi,hw⟩:=z
    exact Or.inr ⟨_,.push f hn ht⟩
 ·obtain⟨k,y,_,h2,h3,h4⟩:=VA.find I.a (I.lv p List.mem_cons_self q (List.mem_of_getElem? hq) he)
  cases f:(qae s c.tn c.td p).2.2
  ·exact Or.inr ⟨_,.gone f hq he hf h2 h3 h4⟩
  ·exact Or.inr ⟨_,.key f hq he hf h2 h3 h4⟩
theorem qh0 {c:Ck} {s:List Pt} (P:AlPre c s):∀ (l:List Pt) (o:Ck),(∀ p∈l,p∈c.l)→(l.map Pt.id).Nodup→AlInv c l o→∃ r,AlRun c s l o r
 | [],o,_,_,_=>⟨_,.nil o⟩
 | p::l,o,hl,nd,I=>by
  rw[List.map_cons,List.nodup_cons] at nd
  rcases qlx (s:=s) I with h | ⟨o2,h⟩
  ·exact⟨_,.full h⟩
  ·have hu:∀ p'∈l,p'.id≠p.id:=fun p' hp' e=>nd.1 (List.mem_map.2 ⟨p',hp',e⟩)
   obtain⟨r,hr⟩:=qh0 P l o2 (fun p' hp'=>hl p' (List.mem_cons_of_mem _ hp')) nd.2 (h.inv P (hl p List.mem_cons_self) hu I)
   exact⟨r,.step h hr⟩
abbrev qm4 (f:FuncId) (c:Ck) (s:List Pt) (e:Int):Prop:=Fn f 9 [qam c,qaE 8 s] (qas c++[(8,0,qaj s)]) (.pv (.tuple #[qa3,iV e])) 0 []
abbrev qFk (c:Ck) (s:List Pt) (o:Ck):S1:=.ag [.pv (iV c.tn),.pv (iV c.td),.ls 9 s.length,.pv (iV c.x),.ls 10 c.l.length,.ls 11 o.u.length,.ls 12 o.b.length,.ls 13 o.fr.length,.ls 14 o.ev.length,.ls 15 o.wh.length,.ls 16 o.d.length]
abbrev qFy (c:Ck) (s:List Pt) (o:Ck):List (Nat×Nat×SV):=[(9,0,qaj s),(10,0,qal c.l),(11,0,zrI o.u),(12,0,zrB o.b),(13,0,zrI o.fr),(14,0,qao o.ev),(15,0,zrI o.wh),(16,0,qaJ o.d)]
abbrev qEE (f:FuncId) (c:Ck) (s:List Pt) (o:Ck):Prop:=Fn f 9 [qam c,qaE 8 s] (qas c++[(8,0,qaj s)]) (.tu [qFk c s o,.one (.pv (iV 0))]) 8 (qFy c s o)
theorem qgJ {c:Ck} {s:List Pt} (P:AlPre c s):AlInv c c.l { c with d:=[] } where
 a:=P.V.a
 lv:=fun p _ q hq _=>by
  obtain⟨_,_,_,y,hd⟩:=P.V.f.some q hq
  exact hd.lv
 nw:=fun y hy p hp hn e=>by
  obtain⟨j,hj⟩:=List.getElem?_of_mem hy
  obtain⟨p',hp',_,q,hq,hd⟩:=P.V.ev hj
  exact hn q hq (hd.id.trans (hd.k.symm.trans e))
 sz:=by have:=P.S.l;simp;omega
 w:=P.V.w
noncomputable def qfs (c:Ck) (s:List Pt):Int:=open Classical in if V9 c then (if qez s=0 then (if qcQ c.l s then 0 else 6) else qez s) else 8
end Go.Proofs.YtkjaanhddkkodaaGreat

namespace Go.Proofs.YtkjaanhddkkodaaGreat
set_option maxRecDepth 100000
open Go.RowKit
theorem FailIs.one {p q:Pt} {n d m k m' k':Int} {s s':Bool} (h:FailIs p q n d m k s) (h':FailIs p q n d m' k' s'):m=m'∧k=k'∧s=s':=by
 cases s<;>cases s'
 ·obtain⟨rfl,rfl⟩:=h.no rfl
  obtain⟨rfl,rfl⟩:=h'.no rfl
  exact⟨rfl,rfl,rfl⟩
 ·obtain⟨o,_,_,l⟩:=h'.ok rfl
  have:=h.before m' k' o l (fun e=>by cases e)
  rw[h'.then_ rfl] at this
  cases this
 ·obtain⟨o,_,_,l⟩:=h.ok rfl
  have:=h'.before m k o l (fun e=>by cases e)
  rw[h.then_ rfl] at this
  cases this
 ·obtain⟨o,_,_,l⟩:=h.ok rfl
  obtain⟨o',_,_,l'⟩:=h'.ok rfl
  have e:m*k'=m'*k:=by
   rcases Int.lt_trichotomy (m*k') (m'*k) with e | e | e
   ·have:=h'.before m k o l (fun _=>e)
    rw[h.then_ rfl] at this
    cases this
   ·exact e
   ·have:=h.before m' k' o' l' (fun _=>e)
    rw[h'.then_ rfl] at this
    cases this
  obtain⟨rfl,rfl⟩:=qgL o o' e
  exact⟨rfl,rfl,rfl⟩
theorem FailIs.later {p q:Pt} {n d n' d' m k:Int} {s:Bool} (h:FailIs p q n d m k s) (hd:okB n d=true) (hd':okB n' d'=true) (h1:n*d'≤n'*d) (h2:s=true→n'*k≤m*d'):FailIs p q n' d' m k s where
 ok:=fun e=>by
  obtain⟨o,i1,i2,_⟩:=h.ok e
  exact⟨o,i1,i2,h2 e⟩
 no:=h.no
 then_:=h.then_
 before:=fun tn td ht l1 l2=>h.before tn td ht (by
  have a:=qbm hd
  have b:=qbm hd'
  have c:=qbm ht
  exact qAE (n:=n') (d:=d') (tn:=tn) (td:=td) (m:=n) (k:=d) (by omega) (by omega) (by omega) h1 l1) l2
theorem qjf {s:List Pt} {n d n' d':Int} {p:Pt} (h:FailT s n d p) (h':FailT s n' d' p) (hd:okB n d=true) (hd':okB n' d'=true) (h1:n*d'≤n'*d) (h2:(qae s n d p).2.2=true→n'*(qae s n d p).2.1≤(qae s n d p).1*d'):qae s n' d' p=qae s n d p:=by
 obtain⟨e1,e2,e3⟩:=(h.i.later hd hd' h1 h2).one h'.i
 exact Prod.ext e1.symm (Prod.ext e2.symm e3.symm)
theorem DueOk.own {c:Ck} {p q:Pt} {y:Ev} (h:DueOk c p q y) (ha:VA c.u c.b c.fr c.ev c.wh):y.i=q.a∧y.w=q.b:=by
 obtain⟨w,y',h1,h2,h3,h4⟩:=VA.find ha h.lv
 obtain⟨w',g1,g2⟩:=h.at_
 rw[h1] at g1
 have e:(w:Int)=(w':Int):=Option.some.inj g1
 have e2:w=w':=by omega
 subst e2
 rw[h2] at g2
 have e3:y'=y:=Option.some.inj g2
 subst e3
 exact⟨h3,h4⟩
theorem DueOk.mk' {c:Ck} {p q:Pt} {y:Ev} (ha:VA c.u c.b c.fr c.ev c.wh) (hy:y∈c.ev) (e1:y.i=q.a) (e2:y.w=q.b) (id:q.id=p.id) (k:y.k=p.id) (n:y.n=(qae c.s c.tn c.td p).1) (d:y.d=(qae c.s c.tn c.td p).2.1):DueOk c p q y:=by
 obtain⟨j,hj⟩:=List.getElem?_of_mem hy
 obtain⟨h1,h2⟩:=VA.own ha hj
 rw[e1,e2] at h1
 rw[e1] at h2
 exact⟨id,h1,⟨j,h2,hj⟩,k,n,d⟩
theorem DueF.map {c o:Ck} {l:List Pt}:∀ {d:List Pt},(∀ p∈l,qae o.s o.tn o.td p=qae c.s c.tn c.td p)→(∀ p∈l,∀ q∈d,(∃ y,DueOk c p q y)→∃ y,DueOk o p q y)→DueF c l d→DueF o l d:=by
 induction l with
 | nil=>intro d _ _ h;exact h
 | cons p l ih=>
  intro d hf hk h
  have e:=hf p List.mem_cons_self
  show if (qae o.s o.tn o.td p).2.2=true then _ else _
  rw[e]
  cases f:(qae c.s c.tn c.td p).2.2
  ·have h':DueF c l d:=by
    have:(if (qae c.s c.tn c.td p).2.2=true then _ else _):=h
    rwa [if_neg (by rw[f];decide)] at this
   rw[if_neg (by decide)]
   exact ih (fun p' hp'=>hf p' (List.mem_cons_of_mem _ hp')) (fun p' hp'=>hk p' (List.mem_cons_of_mem _ hp')) h'
  ·have h':∃ q r,d=q::r∧(∃ y,DueOk c p q y)∧DueF c l r:=by
    have:(if (qae c.s c.tn c.td p).2.2=true then _ else _):=h
    rwa [if_pos f] at this
   obtain⟨q,r,hd,hy,hr⟩:=h'
   rw[if_pos rfl]
   subst hd
   exact⟨q,r,rfl,hk p List.mem_cons_self q List.mem_cons_self hy,ih (fun p' hp'=>hf p' (List.mem_cons_of_mem _ hp')) (fun p' hp' q' hq'=>hk p' (List.mem_cons_of_mem _ hp') q' (List.mem_cons_of_mem _ hq')) hr⟩
theorem DueF.snoc {c:Ck} {p:Pt} {l:List Pt}:∀ {d:List Pt},DueF c l d→(qaX c p=false→DueF c (l++[p]) d)∧(qaX c p=true→∀ q y,DueOk c p q y→DueF c (l++[p]) (d++[q])):=by
 induction l with
 | nil=>
  intro d h
  have e:d=[]:=h
  subst e
  refine⟨fun f=>?_,fun f q y hy=>?_⟩
  ·show if (qae c.s c.tn c.td p).2.2=true then _ else _
   rw[if_neg (by rw[show (qae c.s c.tn c.td p).2.2=false from f];decide)]
   rfl
  ·show if (qae c.s c.tn c.td p).2.2=true then _ else _
   rw[if_pos f]
   exact⟨q,[],rfl,⟨y,hy⟩,rfl⟩
 | cons p' l ih=>
  intro d h
  cases f':(qae c.s c.tn c.td p').2.2
  ·have h':DueF c l d:=by
    have:(if (qae c.s c.tn c.td p').2.2=true then _ else _):=h
    rwa [if_neg (by rw[f'];decide)] at this
   obtain⟨i1,i2⟩:=ih h'
   refine⟨fun f=>?_,fun f q y hy=>?_⟩
   ·show if (qae c.s c.tn c.td p').2.2=true then _ else _
    rw[if_neg (by rw[f'];decide)]
    exact i1 f
   ·show if (qae c.s c.tn c.td p').2.2=true then _ else _
    rw[if_neg (by rw[f'];decide)]
    exact i2 f q y hy
  ·have h':∃ q r,d=q::r∧(∃ y,DueOk c p' q y)∧DueF c l r:=by
    have:(if (qae c.s c.tn c.td p').2.2=true then _ else _):=h
    rwa [if_pos f'] at this
   obtain⟨q',r,hd,hy',hr⟩:=h'
   subst hd
   obtain⟨i1,i2⟩:=ih hr
   refine⟨fun f=>?_,fun f q y hy=>?_⟩
   ·show if (qae c.s c.tn c.td p').2.2=true then _ else _
    rw[if_pos f']
    exact⟨q',r,rfl,hy',i1 f⟩
   ·show if (qae c.s c.tn c.td p').2.2=true then _ else _
    rw[if_pos f']
    exact⟨q',r++[q],rfl,hy',i2 f q y hy⟩
theorem V9.new_ok {c o:Ck} (S:S9 c) (V:V9 c) {a b:Int} (hc:qb8 a b=true) (ha:∃ q∈c.s,q.id=a) (hb:∃ q∈c.s,q.id=b) (h0:adE c a b=0) (h:qhS c a b o):V9 o:=by
 have hh:qfu c.l a b=false:=by
  cases e:qfu c.l a b
  ·rfl
  ·unfold adE at h0;rw[if_pos e] at h0;cases h0
 have hr:¬ (c.l.length=200∨c.x=1000000):=fun e=>by
  unfold adE at h0;rw[if_neg (by rw[hh];decide),if_pos e] at h0;cases h0
 have hl:=V.v.len
 have hx:=V.v.nx
 have v:V8 (c.x+1) (c.l++[⟨c.x,a,b⟩]):=V8.add V.v hc hh (by omega) (by omega)
 have kn:qcQ (c.l++[⟨c.x,a,b⟩]) c.s:=fun p hp=>by
  rcases List.mem_append.1 hp with hp | hp
  ·exact V.k p hp
  ·rw[List.mem_singleton.1 hp];exact⟨ha,hb⟩
 rcases h with ⟨f,rfl⟩ | ⟨f,u2,b2,f2,hi,hw,ht,rfl⟩
 ·exact⟨V.t,V.s,v,kn,V.a,V.w,V.e,DueF.map (c:=c) (fun _ _=>rfl) (fun _ _ _ _ ⟨y,h⟩=>⟨y,⟨h.id,h.lv,h.at_,h.k,h.n,h.d⟩⟩) ((V.f.snoc).1 f)⟩
 ·have FT:=qbs (c:=⟨c.x,a,b⟩) S.tn S.td V.t V.s hc ha hb
  obtain⟨k1,k2,k3,_⟩:=FT.i.ok f
  obtain⟨A,pm,lv,lvp⟩:=VA.push ⟨k2,k3⟩ k1 V.a V.new ht
  have l1:=A.lens
  have l0:=V.a.lens
  have wl:=V.w
  obtain⟨_,_,_,_,eu,_,_,_⟩:=qbp ht
  have lu:u2.length=c.u.length:=by rw[eu,List.length_set]
  let o:Ck:=qxh c a b (qae c.s c.tn c.td ⟨c.x,a,b⟩).1 (qae c.s c.tn c.td ⟨c.x,a,b⟩).2.1 u2 b2 f2 hi hw
  have D:DueF o c.l c.d:=DueF.map (c:=c) (fun _ _=>rfl) (fun p _ q _ ⟨y,hy⟩=>by
   obtain⟨e1,e2⟩:=hy.own V.a
   obtain⟨j,_,hj⟩:=hy.at_
   exact⟨y,DueOk.mk' A (pm.mem_iff.2 (List.mem_append_left _ (List.mem_of_getElem? hj))) e1 e2 hy.id hy.k hy.n hy.d⟩) V.f
  have N:DueOk o ⟨c.x,a,b⟩ ⟨c.x,hi,hw⟩ ⟨(qae c.s c.tn c.td ⟨c.x,a,b⟩).1,(qae c.s c.tn c.td ⟨c.x,a,b⟩).2.1,c.x,hi,hw⟩:=DueOk.mk' A (pm.mem_iff.2 (List.mem_append_right _ (List.mem_singleton.2 rfl))) rfl rfl rfl rfl rfl rfl
  have le:=pm.length_eq
  exact⟨V.t,V.s,v,kn,A,by show (qba _ _ _).2.length=200;omega,by have:=V.e;show (qba _ _ _).1.length=(c.d++[_]).length;rw[List.length_append];rw[List.length_append] at le;simp at le ⊢;omega,(D.snoc).2 f _ _ N⟩
end Go.Proofs.YtkjaanhddkkodaaGreat
