import Derived.Test.YtclpbaokadfhhaaGreatDoorZk
import Derived.Test.YtclpbaokadfhhaaGreatDoorUf
import Derived.Test.YtclpbaokadfhhaaGreatDoorZq
set_option maxRecDepth 100000
set_option maxHeartbeats 2000000
open List renaming replicate->Qa,length_map->Qc,length->Qd,getD_eq_getElem?_getD->Qe,length_nil->Qf,set_append_right->Qg,getElem?_append_left->Qi,getElem?_eq_getElem->Qj,getElem?_map->Qk
open Go.Value renaming slice->Qm,string->Qn,int->Qo,pointer->Qp
open Go.IntKind renaming wrap_i64->Qq,signed->Qt,wrap->Qx,bits->Qy,i64->Qz,u8->QA
open Go renaming World->QB,Value->QC,below_drewN->QD,madeCells->QE,TypeId->QF,cell_of_row->QG
open Int renaming tmod_eq_emod_of_nonneg->QH
open Go.Proofs.Tryz renaming prog->QI,underlying25->QJ
open Go.Obj renaming cells->QL
open Go.RowKit renaming Below->QM,intOf->QN
open Option renaming map_eq_some_iff->QO
open Or renaming inl->QP,inr->QQ
open Nat renaming lt_of_lt_of_le->QR,le_trans->QT,min->QU
open UInt8 renaming toNat_ofNat'->QV,ofNat->QW
open Go.Builtin renaming append_->QY
open Prod.mk renaming injEq->QZ
namespace Go.Proofs.YtclpbaokadfhhaaGreatDoor
open Go.RowKit
def LST(w:QB)(q:Nat)(v:Wv)(T:List (Nat×Nat×ByteArray)):Prop:=
 Blk w q v.cs 43/\v.ln=T.length/\v.mn=T.length/\T.length<=140737488355328/\ ∀i (h:i<T.length),T[i].2.1<=140737488355338/\ ∃g1 g2,v.lp=some ⟨g1,0,none⟩/\v.mp=some ⟨g2,0,none⟩/\g1<w.heap.size/\g2<w.heap.size/\T[i].1<w.heap.size/\
  w.cell? ⟨g1,i,none⟩=some (Qm (some ⟨T[i].1,0,none⟩) T[i].2.1 T[i].2.1)/\w.cell? ⟨g2,i,none⟩=some (Qn T[i].2.2)/\ ∀k,k<T[i].2.1->w.cell? ⟨T[i].1,k,none⟩=some (Qn T[i].2.2)
theorem LST.keep{w w':QB}{q:Nat}{v:Wv}{T:List (Nat×Nat×ByteArray)}(h:LST w q v T)(k:QM w.heap.size w w'):LST w' q v T:=by
 obtain⟨m,h2,n,o,r⟩:=h;refine⟨m.keep k,h2,n,o,λi s=>?_⟩;obtain⟨a,g,l,b,c,d,e,f,x,y,z⟩:=r i s;have u:=k.size;exact⟨a,g,l,b,c,oo,oo,oo,(k.cell (p:=⟨g,i,none⟩) d).trans x,(k.cell (p:=⟨l,i,none⟩) e).trans y,λj t=>(k.cell (p:=⟨T[i].1,j,none⟩) f).trans (z j t)⟩
theorem aaI(v:Wv)(q:Nat)(w:QB)(T:List (Nat×Nat×ByteArray))(g:LST w q v T):
  Rw 23 #[Qp (some ⟨q,0,none⟩)] w (.bool true):=by
 have t:=g.2.1;have s:=g.2.2.1;have K:=g.2.2.2.1;have h0:Hid (LST w q v T/\QM w.heap.size w w):=⟨g,Below.refl _ _⟩;clear g;go_enter Tryz.func23,Tryz.ntmps23;go_wp2_with fail;go_loopw [3] (λi wr=> ∃a:Nat,i=Qo Qz (a:Int)/\a<=T.length/\Hid (LST wr q v T/\QM w.heap.size w wr)) (λi _=>T.length-(QN i).toNat)
 case atStart=>exact⟨0,rfl,oo,h0⟩
 case round=>
  clear h0;obtain⟨a,rfl,L,c⟩:=hrel;obtain⟨j,l,m,n,d,e⟩:=Wv.at c.out.1.1;rw[t]at d;rw[s]at e;by_cases E:a<T.length
  .have B:(a:Int)<(T.length:Int):=oo
   have H:(0:Int)<=(a:Int):=oo
   go_wp2_with fail;clear j l m n d e;go_loopw [4] (λk wr=> ∃kk:Nat,k=Qo Qz (kk:Int)/\kk<=T[a].2.1/\Hid (LST wr q v T/\QM w.heap.size w wr)) (λk _=>T[a].2.1-(QN k).toNat)
   case atStart=>exact⟨0,rfl,oo,c⟩
   case round=>
    clear c;obtain⟨kk,rfl,D,c⟩:=hrel;obtain⟨j,l,m,n,d,e⟩:=Wv.at c.out.1.1;rw[t]at d;rw[s]at e;obtain⟨F,I,J,z,A,_,_,_,p,u,f⟩:=c.out.1.2.2.2.2 a E;rw[z]at d;rw[A]at e;generalize T[a].1=b at p f;generalize T[a].2.2=M at u f;generalize T[a].2.1=o at p f F D|-;by_cases C:kk<o
    .have y:=f kk C;have x:(kk:Int)<(o:Int):=oo
     have G:(0:Int)<=(kk:Int):=oo
     clear f;go_wp2_with fail;go_quiet (fail)
     have h:QM wr.heap.size wr (wr.drewN nq):=QD bR nq;have r:Hid (LST (wr.drewN nq) q v T/\QM w.heap.size w (wr.drewN nq)):=⟨c.out.1.keep h,c.out.2.trans (h.mono c.out.2.size)⟩;clear c h j l m n d e p u y;generalize wr.drewN nq=N at r|-;go_wp2_with fail;go_roundw
     case rel=>exact⟨kk+1,gn,oo,r⟩
     case measure=>simp[QN];omega
    .have x:¬(kk:Int)<(o:Int):=oo
     clear f;go_wp2_with fail;go_roundw
     case rel=>exact⟨a+1,gn,oo,c⟩
     case measure=>simp[QN];omega
  .have B:¬(a:Int)<(T.length:Int):=oo
   go_wp2;go_ret;exact⟨rfl,c.out.2⟩
def OV(t:QF)(w:QB)(base g:Nat)(v:QC)(l:List QC):Prop:=(l=[]/\v=Qm none 0 0)\/(base<=g/\OwnV t w g v l)
theorem OV.keep{t:QF}{w w':QB}{a g:Nat}{v:QC}{l:List QC}(h:OV t w a g v l)(k:a<=g->w'.heap[g]? =w.heap[g]?):OV t w' a g v l:=by
 rcases h with h|⟨b,h2⟩
 .exact QP h
 .exact QQ ⟨b,h2.keep (k b)⟩
theorem abL{ts t:TypeId}{i:TypeInfo}{z:Value}(hu:Tryz.prog.underlying ts=some (.slice t))(hi:Tryz.prog.info? t=some i)(hz:i.zero=some z)(hs:i.size=1)(hz1:z.cells.size=1)(hby:i.bytes<=24)
  {w:World} {base g:Nat} {v:Value} {l:List Value} (h:OV t w base g v l) (_hg:g<w.heap.size) (hb:base<=w.heap.size) (x:Value) (hx1:x.oneCell'=true) (hl:l.length<2000000000000):
  ∃p n c w' g',(Builtin.append_ #[ts,ts] ts #[v,.slice (some ⟨w.heap.size,0,none⟩) 1 1]).run Tryz.prog (w.alloc (.cells #[x] t))=.ok (.slice p n c) w'/\OV t w' base g' (.slice p n c) (l++ [x])/\g'<w'.heap.size/\(g'=g\/w.heap.size<=g')/\(∀b,b<w.heap.size->b≠g\/b<base->w'.heap[b]? =w.heap[b]?)/\Below base w w':=by
 have c1:(w.alloc (.cells #[x] t)).cell? ⟨w.heap.size,0,none⟩=some x:=cell_of_row _ _ 0 _ _ _ (heap_alloc_new w _);have b1:Below w.heap.size w (w.alloc (.cells #[x] t)):=bR.alloc nR _;have s1:(w.alloc (.cells #[x] t)).heap.size=w.heap.size+1:=ss
 rcases h with ⟨rfl,rfl⟩|⟨hbg,h⟩
 .obtain⟨v',w',hr,ho,hB⟩:=XP hu hi hz hs hz1 hby (w:=w.alloc (.cells #[x] t)) x hx1 _ c1;have hlt:=ho.lt;obtain⟨cap,cur,fz,rfl,_⟩:=id ho;refine⟨_,_,_,w',_,hr,Or.inr ⟨oo,ho⟩,hlt,Or.inr oo,λb hb hne=>?_,?_⟩
  .rw[hB.block b oo,b1.block b hb]
  .exact(b1.mono oo).trans (hB.mono oo)
 .obtain⟨v',w',g',hr,ho,hg',hB⟩:=adl hu hi hz hs hz1 hby (h.keep (b1.block g h.lt)) x hx1 _ c1 hl;have hlt:=ho.lt;obtain⟨cap,cur,fz,rfl,_⟩:=id ho;refine⟨_,_,_,w',g',hr,Or.inr ⟨oo,ho⟩,hlt,oo,λb hb hne=>?_,?_⟩
  .rw[hB.other b oo oo,b1.block b hb]
  .exact(b1.mono oo).trans (hB.below.mono oo)
abbrev TLs:=List (Nat×Nat×ByteArray)
def lcs(T:TLs):List QC:=T.map λt=> Qm (some ⟨t.1,0,none⟩) t.2.1 t.2.1
def mcs(T:TLs):List QC:=T.map λt=> Qn t.2.2
def LR(w:QB)(base g1 g2:Nat)(T:TLs):Prop:= ∀t∈T,base<=t.1/\t.1≠g1/\t.1≠g2/\t.2.1<=140737488355338/\Blk w t.1 (Ss (Qa t.2.1 t.2.2)) 9
structure LG (w:QB) (base g1 g2:Nat) (vl vm:QC) (T1 T2 T:TLs):Prop where
 l1:g1<w.heap.size
 l2:g2<w.heap.size
 ne:g1≠g2
 o1:OV 25 w base g1 vl (lcs T1)
 o2:OV 9 w base g2 vm (mcs T2)
 r:LR w base g1 g2 T
theorem LG.keep{w w':QB}{q f g i:Nat}{n vm:QC}{j l T:TLs}(h:LG w f g i n vm j l T)(m:w.heap.size<=w'.heap.size)(p:q<f)(k:∀b,b<w.heap.size->b≠q->w'.heap[b]? =w.heap[b]?):LG w' f g i n vm j l T where
 l1:=QR h.l1 m
 l2:=QR h.l2 m
 ne:=h.ne
 o1:=h.o1.keep λo=>k g h.l1 oo
 o2:=h.o2.keep λo=>k i h.l2 oo
 r:=λt ht=>by
  obtain⟨a,b,c,d,e⟩:=h.r t ht;refine⟨a,b,c,d,?_⟩;unfold Blk;rw[k t.1 e.lt oo];exact e
theorem abB:∃i,QI.info? 9=some i/\i.zero=some (Qn ⟨#[]⟩)/\i.size=1/\i.bytes<=24:=by
 have h:(QI.info? 9).map (λi=>(i.zero,i.size,decide (i.bytes<=24)))=some (some (Qn ⟨#[]⟩),1,true):=kr
 obtain⟨i,b,a⟩:=QO.1 h;simp only[QZ,decide_eq_true_eq]at a;exact⟨i,b,a⟩
theorem abA:∃i,QI.info? 25=some i/\i.zero=some (Qm none 0 0)/\i.size=1/\i.bytes<=24:=by
 have h:(QI.info? 25).map (λi=>(i.zero,i.size,decide (i.bytes<=24)))=some (some (Qm none 0 0),1,true):=kr
 obtain⟨i,b,a⟩:=QO.1 h;simp only[QZ,decide_eq_true_eq]at a;exact⟨i,b,a⟩
theorem LG.app1{w:QB}{a j e:Nat}{o vm:QC}{T:TLs}(h:LG w a j e o vm T T T)(A:a<=w.heap.size)(z:T.length<2000000000000)(b m:Nat)(mk:Qb)(B:a<=b)(y:b≠j)(h2:b≠e)(G:m<=140737488355338)(k:Blk w b (Ss (Qa m mk)) 9):
  ∃p n c w' d,(QY #[41,41] 41 #[o,Qm (some ⟨w.heap.size,0,none⟩) 1 1]).run QI (w.alloc (QL #[Qm (some ⟨b,0,none⟩) m m] 25))=.ok (Qm p n c) w'/\
   LG w' a d e (Qm p n c) vm (T++ [(b,m,mk)]) T (T++ [(b,m,mk)])/\QM a w w':=by
 obtain⟨i,E,L,K,D⟩:=abA;obtain⟨p,n,c,w',d,J,I,F,N,f,l⟩:=abL Tryz.underlying41 E L K rfl D h.o1 h.l1 A (Qm (some ⟨b,0,none⟩) m m) rfl (by rw[lcs,Qc];exact z);have C:=k.lt;have M:=h.l1;have q:=h.l2;have H:=h.ne;have O:=l.size;refine⟨p,n,c,w',d,J,⟨F,oo,oo,?_,h.o2.keep λ_=>f e q (QP (Ne.symm H)),?_⟩,l⟩
 .rw[show lcs (T++ [(b,m,mk)])=lcs T++ [Qm (some ⟨b,0,none⟩) m m] by simp[lcs]];exact I
 .intro t ht;rcases List.mem_append.1 ht with ht|ht
  .obtain⟨r,s,u,v,g⟩:=h.r t ht;have x:=g.lt;refine⟨r,oo,u,v,?_⟩;unfold Blk;rw[f _ x (QP s)];exact g
  .rw[List.mem_singleton.1 ht];refine⟨B,by show b≠d;omega,h2,G,?_⟩;show w'.heap[b]? =_
   rw[f _ C (QP y)];exact k
theorem LG.app2{w:QB}{d f x:Nat}{l vm:QC}{T a:TLs}(h:LG w d f x l vm a T a)(z:d<=w.heap.size)(y:T.length<2000000000000)(b m:Nat)(mk:Qb):
  ∃p n c w' e,(QY #[25,25] 25 #[vm,Qm (some ⟨w.heap.size,0,none⟩) 1 1]).run QI (w.alloc (QL #[Qn mk] 9))=.ok (Qm p n c) w'/\
   LG w' d f e l (Qm p n c) a (T++ [(b,m,mk)]) a/\QM d w w':=by
 obtain⟨i,B,H,G,A⟩:=abB;obtain⟨p,n,c,w',e,F,E,C,J,k,j⟩:=abL QJ B H G rfl A h.o2 h.l2 z (Qn mk) rfl (by rw[mcs,Qc];exact y);have o:=h.l1;have I:=h.l2;have D:=h.ne;have K:=j.size;refine⟨p,n,c,w',e,F,⟨oo,C,oo,h.o1.keep λ_=>k f o (QP D),?_,?_⟩,j⟩
 .rw[show mcs (T++ [(b,m,mk)])=mcs T++ [Qn mk] by simp[mcs]];exact E
 .intro t ht;obtain⟨q,r,s,u,g⟩:=h.r t ht;have v:=g.lt;refine⟨q,r,oo,u,?_⟩;unfold Blk;rw[k _ v (QP s)];exact g
theorem OwnV.cell{t:QF}{w:QB}{g:Nat}{v:QC}{l:List QC}(h:OwnV t w g v l)(i:Nat)(d:i<l.length):w.cell? ⟨g,i,none⟩=l[i]? :=by
 obtain⟨cap,a,b,_,c,_,e,f,ht⟩:=h;have h2:(a.toList.take l.length)[i]? =l[i]? :=by rw[ht]
 rw[List.getElem?_take_of_lt d]at h2;rw[QG w g i a _ b c,<-h2];simp
def LS(w:QB)(q base:Nat)(v:Wv)(T:TLs):Prop:=Blk w q v.cs 43/\ ∃g1 g2,LG w base g1 g2 (Qm v.lp v.ln v.lc) (Qm v.mp v.mn v.mc) T T T
theorem LS.lst{w:QB}{q m:Nat}{v:Wv}{T:TLs}(h:LS w q m v T)(s:T.length<=140737488355328):LST w q v T:=by
 obtain⟨y,p,r,h⟩:=h;have t:v.ln=T.length:=by
  rcases h.o1 with ⟨d,h2⟩|⟨_,cap,n,o,h2,_⟩
  .have:=congrArg Qd d;simp only[lcs,Qc,Qf]at this;injection h2 with _ h2;omega
  .injection h2 with _ h2;rw[h2,lcs,Qc]
 have x:v.mn=T.length:=by
  rcases h.o2 with ⟨d,h2⟩|⟨_,cap,n,o,h2,_⟩
  .have:=congrArg Qd d;simp only[mcs,Qc,Qf]at this;injection h2 with _ h2;omega
  .injection h2 with _ h2;rw[h2,mcs,Qc]
 refine⟨y,t,x,s,λi a=>?_⟩;obtain⟨_,_,_,u,f⟩:=h.r T[i] (List.getElem_mem a);refine⟨u,p,r,?_⟩;have B:¬lcs T=[]:=λe=>by have:=congrArg Qd e;simp only[lcs,Qc,Qf]at this;omega
 have C:¬mcs T=[]:=λe=>by have:=congrArg Qd e;simp only[mcs,Qc,Qf]at this;omega
 obtain⟨_,j⟩:=h.o1.resolve_left λe=>B e.1
 obtain⟨_,l⟩:=h.o2.resolve_left λe=>C e.1
 have z:=j.cell i (by rw[lcs,Qc];exact a);have A:=l.cell i (by rw[mcs,Qc];exact a);obtain⟨_,_,_,b,_⟩:=j;obtain⟨_,_,_,c,_⟩:=l;injection b with b
 injection c with c
 refine⟨b,c,h.l1,h.l2,f.lt,?_,?_,λk g=>?_⟩
 .rw[z,lcs,Qk,Qj a];rfl
 .rw[A,mcs,Qk,Qj a];rfl
 .rw[f.cell,xw _ _ (by simpa using g)];simp[g]
theorem XB(n:Nat)(h:n<=8796093022207)(w:QB):
  (Instr.makeSlice 25 (Qo Qz (n:Int)) (Qo Qz (n:Int))).run QI w=.ok (Qm (some ⟨w.heap.size,0,none⟩) n n) (w.alloc (QL (Ss (Qa n ⟨#[]⟩)) 9)):=by
 have e:QE #[Qn ⟨#[]⟩] n=Ss (Qa n ⟨#[]⟩):=by
  apply Array.ext_getElem?
  intro i;rw[Oi];by_cases h:i<n
  .simp[QE,h,Nat.mod_one]
  .simp[QE,h]
 rw[<-e];exact run_make_row' 25 9 _ 16 QJ Tryz.infoStrA rfl Qz Qz n oo oo w
theorem Tryz.infoStr1:(QI.info? 9).map (·.size)=some 1:=kr
def beh:ByteArray:=⟨#[98,101,104,105,110,100]⟩
def far:ByteArray:=⟨#[102,97,114,32,98,101,104,105,110,100]⟩
def pN(L:List ByteArray):List ByteArray:=L++ [beh,far]
def uA(L:List ByteArray)(m:ByteArray)(i:Nat):List ByteArray:=Qa i m++(pN L).drop i
theorem xm(L:List ByteArray):(pN L).length=L.length+2:=by simp[pN]
theorem AM(L:List ByteArray)(m:Qb)(i:Nat)(h:i<=L.length+2):(uA L m i).length=L.length+2:=by simp[uA,pN];omega
theorem Vh(L:List ByteArray)(m:Qb):uA L m 0=pN L:=by simp[uA]
theorem Xk(L:List ByteArray)(m:Qb):uA L m (L.length+2)=Qa (L.length+2) m:=by simp[uA,pN]
theorem Zy(L:List ByteArray)(m:Qb)(k:Nat)(h:k<L.length):(uA L m k).getD k ⟨#[]⟩=aM L k:=by
 unfold uA pN aM;rw[Qe,List.getElem?_append_right ss];simp[h,Qi]
theorem Np(L:List ByteArray)(m:Qb)(k:Nat)(h:k<L.length+2):(uA L m k).set k m=uA L m (k+1):=by
 unfold uA;rw[Qg _ _ ss,List.length_replicate,Nat.sub_self,List.replicate_succ',List.append_assoc];congr 1
 rw[List.drop_eq_getElem_cons (show k<(pN L).length by rw[xm];exact h)];rfl
theorem Zw(L:List ByteArray):(splice (Ss (Qa (L.length+2) ⟨#[]⟩)).toList 0 (Ss L).toList).toArray=Ss (L++ [⟨#[]⟩,⟨#[]⟩]):=by
 apply Array.toList_inj.1
 simp[splice,Ss]
theorem acm(L:List ByteArray):(L++ [(⟨#[]⟩:ByteArray),⟨#[]⟩]).set L.length beh=L++ [beh,⟨#[]⟩]:=by
 rw[Qg _ _ nR];simp
theorem acl(L:List ByteArray):(L++ [beh,(⟨#[]⟩:ByteArray)]).set (L.length+1) far=pN L:=by
 unfold pN;rw[Qg _ _ oo];simp
structure SE (w:QB) (q:Nat) (v:Wv) (o:OpV) (g:Nat) (A:List ByteArray) (y:QB):Prop where
 hq:Blk y q v.cs 43
 ho:Blk y w.heap.size o.cs 45
 ha:Blk y g (Ss A) 9
 hb:QM w.heap.size w y
 gl:w.heap.size<g
 ql:q<w.heap.size
theorem SE.keep{w y z:QB}{q g:Nat}{v:Wv}{o:OpV}{A:List ByteArray}(h:SE w q v o g A y)(k:QM y.heap.size y z):SE w q v o g A z:=
 ⟨h.hq.keep k,h.ho.keep k,h.ha.keep k,h.hb.trans (k.mono h.hb.size),h.gl,h.ql⟩
theorem SE.set{w y:QB}{q g:Nat}{v:Wv}{o:OpV}{A:List ByteArray}(h:SE w q v o g A y)(i:Nat)(x:Qb):SE w q v o g (A.set i x) (y.setCell ⟨g,i,none⟩ (Qn x)):=by
 have a:=(But.refl g y).set i (Qn x);have b:=h.gl;have h2:=h.ql;exact⟨a.blk h.hq oo,a.blk h.ho oo,h.ha.setAt i _ (Oh _ _ _),h.hb.trans (a.below.mono oo),b,h2⟩
theorem SE.at{w y:QB}{q g:Nat}{v:Wv}{o:OpV}{A:List ByteArray}(h:SE w q v o g A y)(i:Nat)(a:i<A.length):y.cell? ⟨g,i,none⟩=some (Qn (A.getD i ⟨#[]⟩))/\y.frozen? ⟨g,i,none⟩=false:=
 ⟨by rw[h.ha.cell,xw _ _ a],h.ha.frozen i⟩
theorem SR.front{w:QB}{g:Nat}{L:List ByteArray}(h:SR w g (pN L)):SR w g L:=⟨h.1,λk a=>by
 rw[h.2 k (by rw[xm];omega)];unfold pN aM;rw[Qe,Qi a,Qe]⟩
theorem Tryz.infoB:∃a,QI.info? 5=some a/\a.size=1/\a.zero=some (Qo QA 0):=by
 have h:((QI.info? 5).map λi=>(i.size,i.zero))=some (1,some (Qo QA 0)):=kr
 obtain⟨a,c,b⟩:=QO.1 h;simp only[QZ]at b;exact⟨a,c,b⟩
theorem acq(x y:Int):Instr.fill (λi=>some (i*1,1)) (Array.map (λx=>(Qo QA 0).cells[x%(Qo QA 0).cells.size]!) (Array.range (2*1))) [(0,Qo QA x),(1,Qo QA y)]=some #[Qo QA x,Qo QA y]:=kr
theorem abd{o:Oper}{a:Act}{w:QB}{K:Act->QB->Prop}{Q:Exit->Act->QB->Prop}(b:List (Nat×Operand))(f:o.op=.buildSlice 55 2 b.toArray)(x y:UInt8)
  (e:b.map (λp=>(p.1,a.eval p.2))=[(0,Qo QA (x.toNat:Int)),(1,Qo QA (y.toNat:Int))])
  (h:K (a.put o.dst (Qm (some ⟨w.heap.size,0,none⟩) 2 2)) (w.alloc (QL (Bs [x,y]) 5))):o.wp QI a w K Q:=by
 obtain⟨g,c,h2,d⟩:=Tryz.infoB;refine wp_buildSlice 55 5 2 b.toArray f (Bs [x,y]) g _ Tryz.underlying55 c d (by rw[h2];decide) (by rw[h2];decide) ?_ h;rw[h2,show (b.toArray.map λ(i,x)=>(i,a.eval x)).toList=[(0,Qo QA (x.toNat:Int)),(1,Qo QA (y.toNat:Int))] by rw[<-e];simp];exact acq _ _
def Kp(base q:Nat)(a b:QB):Prop:=QM q a b/\ ∀i,i<base->i≠q->b.heap[i]? =a.heap[i]?
theorem Kp.trans{d q:Nat}{a b c:QB}(h:Kp d q a b)(k:Kp d q b c):Kp d q a c:=⟨h.1.trans k.1,λi e f=>(k.2 i e f).trans (h.2 i e f)⟩
theorem Kp.of{c q B:Nat}{a b:QB}(h:QM B a b)(d:c<=B)(f:q<c):Kp c q a b:=⟨h.mono oo,λi e _=>h.block i oo⟩
theorem Kp.set(b q:Nat)(a:QB)(i:Nat)(v:QC):Kp b q a (a.setCell ⟨q,i,none⟩ v):=⟨((But.refl q a).set i v).below,λj _ c=>Below.heap_setCell a _ v j c⟩
theorem LG.set{w:QB}{q a e f:Nat}{g vm:QC}{c d T:TLs}(h:LG w a e f g vm c d T)(k:q<a)(i:Nat)(v:QC):LG (w.setCell ⟨q,i,none⟩ v) a e f g vm c d T:=
 h.keep (q:=q) ((But.refl q w).set i v).below.size k λb _ j=>Below.heap_setCell w _ v b j
theorem aaK(o:OpV)(v:Wv)(q z:Nat)(w:QB)(L:List ByteArray)(T:TLs)(X:Qb)(Y:Int)(hn:o.ln=L.length)(cr:L.length<=8796093022205)(hT:T.length<2000000000000)(d:X.size<=1000000)(H:v.Ok)(I:q<z)(b6:z<=w.heap.size)(hS:LS w q z v T)
  (hL:∀k,k<L.length-> ∃b off,o.p=some ⟨b,off,none⟩/\b<w.heap.size/\w.cell? ⟨b,off+k,none⟩=some (Qn (aM L k)))
  (HP:Hid (∀(f:QB) (g cp:Nat) (sp:Option Addr),(1<=L.length->sp=some ⟨g,0,none⟩/\SR f g L)->QM w.heap.size w f->Rw 14 #[Qn o.a,Qm sp L.length cp,Qn o.b,Qn o.c] f (.tuple #[Qn X,Qo Qz Y])))
  (HR:Hid (∀f:QB,QM w.heap.size w f->Rw 103 #[Qn o.a,Qm o.p L.length o.cp,Qn o.b,Qn o.c] f (.tuple #[Qn X,Qo Qz Y]))):
  Calls QI 45 #[Qp (some ⟨q,0,none⟩),.agg o.cs] w λe w'=>e=.returned (.bool true)/\ ∃v' T',T'.length=T.length+1/\v'.Ok/\LS w' q z v' T'/\QM q w w'/\ ∀b,b<z->b≠q->w'.heap[b]? =w.heap[b]? :=by
 have cb:=hS.1.lt;have h0:Blk (w.alloc (QL o.cs 45)) q v.cs 43/\Blk (w.alloc (QL o.cs 45)) w.heap.size o.cs 45/\QM w.heap.size w (w.alloc (QL o.cs 45)):=⟨hS.1.alloc _,Blk.new _ _ _,bR.alloc nR _⟩;have sO:=o.size;have Z:(w.alloc (QL o.cs 45)).cell? ⟨w.heap.size,6,none⟩=some (Qm o.p L.length o.cp):=by rw[<-hn];exact h0.2.1.cell 6
 have ca:∀f:QB,(Instr.makeSlice 25 (Qo Qz ((L.length:Int)+2)) (Qo Qz ((L.length:Int)+2))).run QI f=.ok (Qm (some ⟨f.heap.size,0,none⟩) (L.length+2) (L.length+2)) (f.alloc (QL (Ss (Qa (L.length+2) ⟨#[]⟩)) 9)):=λf=>XB (L.length+2) oo f
 have b1:Blk ((w.alloc (QL o.cs 45)).alloc (QL (Ss (Qa (L.length+2) ⟨#[]⟩)) 9)) (w.heap.size+1) (Ss (Qa (L.length+2) ⟨#[]⟩)) 9:=heap_alloc2_new w _ _;have b2:QM (w.heap.size+1) (w.alloc (QL o.cs 45)) ((w.alloc (QL o.cs 45)).alloc (QL (Ss (Qa (L.length+2) ⟨#[]⟩)) 9)):=bR.alloc ss _;have b0:QM w.heap.size w ((w.alloc (QL o.cs 45)).alloc (QL (Ss (Qa (L.length+2) ⟨#[]⟩)) 9)):=h0.2.2.alloc ss _;have b5:((w.alloc (QL o.cs 45)).alloc (QL (Ss (Qa (L.length+2) ⟨#[]⟩)) 9)).cell? ⟨w.heap.size,6,none⟩=some (Qm o.p L.length o.cp):=by rw[b2.cell (p:=⟨w.heap.size,6,none⟩) (Nat.lt_succ_self _)];exact Z
 have bi:=Qh (show (Ss L).toList.length=QU L.length (L.length+2)from by simp[Ss])
 have bk:=Qh (show 0+(Ss L).toList.length<=(Ss (Qa (L.length+2) ⟨#[]⟩)).toList.length from by simp[Ss])
 have bs:Hid (∀u∈(Ss L).toList,u.oneCell'=true):=λu hu=>by
  simp only[Ss,List.mem_map]at hu;obtain⟨x,_,rfl⟩:=hu;rfl
 have bt:Hid (0<(Ss L).toList.length->some (⟨w.heap.size+1,0,none⟩:Addr)=some ⟨w.heap.size+1,0,none⟩/\ ∃ad,o.p=some ad/\ ∀j u,(Ss L).toList[j]? =some u->((w.alloc (QL o.cs 45)).alloc (QL (Ss (Qa (L.length+2) ⟨#[]⟩)) 9)).cell? (ad.add j)=some u):=by
  intro cv;have hl:(Ss L).toList.length=L.length:=by simp[Ss]
  obtain⟨b,off,hp,hb,_⟩:=hL 0 oo;refine⟨rfl,_,hp,λj u hj=>?_⟩;have bz:j<L.length:=by rw[<-hl];exact(List.getElem?_eq_some_iff.1 hj).1
  obtain⟨b',cw,a3,ce,hc⟩:=hL j bz;rw[hp]at a3;injection a3 with a3
  injection a3 with h1 h2
  subst h1 h2;rw[show (⟨b,off,none⟩:Addr).add j=⟨b,off+j,none⟩from by unfold Addr.add;split<;>simp_all,b0.cell (p:=⟨b,off+j,none⟩) hb,hc,<-hj];rw[Array.getElem?_toList,xw _ _ bz];rfl
 replace hL:=Qh hL;replace hS:=Qh hS;replace H:=Qh H;go_enter Tryz.func45,Tryz.ntmps45;go_wp2_with (refine wpList_copy_splice rfl (.tmp 21) (.tmp 23) 25 25 rfl 9 QJ Tryz.infoStr1 _ _ _ _ _ _ rfl rfl (w.heap.size+1) 0 (Ss (Qa (L.length+2) ⟨#[]⟩)).toList 9 b1 (Ss L).toList bi.out bt.out bk.out bs.out (w.heap.size+1) (w.alloc (QL o.cs 45)) b2 nR ?_);intro w2 bx a0;have a:SE w q v o (w.heap.size+1) (L++ [⟨#[]⟩,⟨#[]⟩]) w2:=by
  refine⟨(a0.block q oo).trans h0.1,(a0.block w.heap.size oo).trans h0.2.1,?_,h0.2.2.trans (a0.mono (Nat.le_succ _)),oo,cb⟩;rw[<-Zw];exact bx.out
 clear ca b1 b0 b2 Z b5 bt h0 bi bk bs bx a0;generalize w.heap.size+1=g at a|-;obtain⟨e0,f0⟩:=a.at L.length ss;have i1:(0:Int)<=(L.length:Int):=oo
 have i2:(L.length:Int)<(L.length:Int)+2:=oo
 go_upto_region 5 with fail
 have ab:=a.set L.length beh;rw[acm]at ab;change SE w q v o g _ (w2.setCell ⟨g,L.length,none⟩ (Qn ⟨#[98,101,104,105,110,100]⟩))at ab;clear a e0 f0;generalize w2.setCell ⟨g,L.length,none⟩ (Qn ⟨#[98,101,104,105,110,100]⟩)=w3 at ab|-;obtain⟨e0,f0⟩:=ab.at (L.length+1) ss;have i3:(0:Int)<=(L.length:Int)+1:=oo
 have i4:(L.length:Int)+1<(L.length:Int)+2:=oo
 have i5:((L.length:Int)+1).toNat=L.length+1:=oo
 go_upto_region 6 with fail
 have a:=ab.set (L.length+1) far;rw[acl]at a;change SE w q v o g _ (w3.setCell ⟨g,L.length+1,none⟩ (Qn ⟨#[102,97,114,32,98,101,104,105,110,100]⟩))at a;clear ab e0 f0;generalize w3.setCell ⟨g,L.length+1,none⟩ (Qn ⟨#[102,97,114,32,98,101,104,105,110,100]⟩)=w4 at a|-;replace a:=Qh a;have i6:(L.length:Int)<=(L.length:Int)+2:=oo
 go_upto_if 36 with fail
 go_cut [7] (λs wr=>(∃(sp:Option Addr) (cp:Nat),s=Qm sp L.length cp/\Hid (1<=L.length->sp=some ⟨g,0,none⟩))/\wr=w4)
 case first=>
  by_cases hl:L.length=0
  .have d1:((L.length:Int)==0)=true:=by rw[beq_iff_eq];omega
   go_wp2_with fail;go_meet
   case rel=>exact⟨⟨none,0,by rw[hl],λh=>oo⟩,rfl⟩
  .have d1:((L.length:Int)==0)=false:=by rw[beq_eq_false_iff_ne];omega
   go_wp2_with fail;go_meet
   case rel=>exact⟨⟨_,_,rfl,λ_=>rfl⟩,rfl⟩
 case rest=>
 obtain⟨⟨sp,cp,rfl,b4⟩,rfl⟩:=hcut;obtain⟨A,B,N,C,D,E⟩:=OpV.at a.out.ho;go_wp2_with fail;refine mo (HP.out _ g _ _ (λh=>⟨b4.out h,(SR.of a.out.ha).front⟩) a.out.hb) λw5 k5=>?_;replace a:=Qh (a.out.keep k5);clear k5 A B N C D E HP b4;obtain⟨A,B,N,C,D,E⟩:=OpV.at a.out.ho;have Z:w5.cell? ⟨w.heap.size,6,none⟩=some (Qm o.p L.length o.cp):=by rw[<-hn];exact a.out.ho.cell 6
 go_wp2_with fail;refine mo (HR.out _ a.out.hb) λw6 k6=>?_;replace a:=Qh (a.out.keep k6);clear k6 A B N C D E Z HR;have O:w6.cell? ⟨g,L.length,none⟩=some (Qn ⟨#[98,101,104,105,110,100]⟩):=by rw[(a.out.at L.length (by rw[xm];omega)).1];simp[pN];rfl
 have e2:w6.cell? ⟨g,L.length+1,none⟩=some (Qn ⟨#[102,97,114,32,98,101,104,105,110,100]⟩):=by rw[(a.out.at (L.length+1) (by rw[xm];omega)).1];simp[pN];rfl
 go_upto_region 12 with fail
 clear O e2;have a9:=(hS.out.lst oo).2.1;obtain⟨J,b8⟩:∃J:UInt8,J.toNat=97+T.length/26%26:=⟨QW (97+T.length/26%26),by rw[QV];omega⟩
 obtain⟨M,b9⟩:∃M:UInt8,M.toNat=97+T.length%26:=⟨QW (97+T.length%26),by rw[QV];omega⟩
 refine bu (S:=(λy:QB=>SE w q v o g (pN L) y)) (ls:=[]) kr ?_;have d:(λy:QB=>SE w q v o g (pN L) y) w6.drew:=a.out.keep (QD bR 1);clear a;generalize w6.drew=wd at d|-;refine ac 0 83 (v:=Qp (some ⟨q,0,none⟩)) d ?_ ?_
 .exact λm _=>rfl
 refine ae 1 84 (v:=Qp (some ⟨q,0,none⟩)) d ?_;try simp only[qQ]
 refine ae 2 85 (v:=Qp (some ⟨q,4,none⟩)) d ?_;refine ac 3 86 (v:=Qm v.lp v.ln v.lc) d ?_ ?_
 ·(intro m c;have cc:=c.hq.cell 4;rw[show v.cs[4]? =some (Qm v.lp v.ln v.lc)from rfl]at cc;clear c;go_simp;try (with_reducible rfl))
 try simp only[qQ]
 refine ac 4 87 (v:=Qo Qz (T.length:Int)) d ?_ ?_
 ·(intro m c;clear c;go_simp;try rw[a9];try (with_reducible rfl))
 try simp only[qQ]
 refine ac 5 88 (v:=Qo Qz ((T.length/26:Nat):Int)) d ?_ ?_
 ·(intro m c;clear c;go_simp;first|(rw[Qq];omega)|(simp[Qx,Qy,Qt];omega)|(rw[QH oo]))
 refine ac 6 89 (v:=Qo Qz ((T.length/26%26:Nat):Int)) d ?_ ?_
 ·(intro m c;clear c;go_simp;first|(rw[Qq];omega)|(simp[Qx,Qy,Qt];omega)|(rw[QH oo]))
 try simp only[qQ]
 refine ac 7 90 (v:=Qo Qz (J.toNat:Int)) d ?_ ?_
 ·(intro m c;clear c;go_simp;first|(rw[Qq];omega)|(simp[Qx,Qy,Qt];omega)|(rw[QH oo]))
 try simp only[qQ]
 refine ac 8 91 (v:=Qo QA (J.toNat:Int)) d ?_ ?_
 ·(intro m c;clear c;go_simp;first|(rw[Qq];omega)|(simp[Qx,Qy,Qt];omega)|(rw[QH oo]))
 try simp only[qQ]
 refine ac 9 92 (v:=Qp (some ⟨q,0,none⟩)) d ?_ ?_
 .exact λm _=>rfl
 refine ae 10 93 (v:=Qp (some ⟨q,0,none⟩)) d ?_;try simp only[qQ]
 refine ae 11 94 (v:=Qp (some ⟨q,4,none⟩)) d ?_;refine ac 12 95 (v:=Qm v.lp v.ln v.lc) d ?_ ?_
 ·(intro m c;have cc:=c.hq.cell 4;rw[show v.cs[4]? =some (Qm v.lp v.ln v.lc)from rfl]at cc;clear c;go_simp;try (with_reducible rfl))
 try simp only[qQ]
 refine ac 13 96 (v:=Qo Qz (T.length:Int)) d ?_ ?_
 ·(intro m c;clear c;go_simp;try rw[a9];try (with_reducible rfl))
 try simp only[qQ]
 refine ac 14 97 (v:=Qo Qz ((T.length%26:Nat):Int)) d ?_ ?_
 ·(intro m c;clear c;go_simp;first|(rw[Qq];omega)|(simp[Qx,Qy,Qt];omega)|(rw[QH oo]))
 try simp only[qQ]
 refine ac 15 98 (v:=Qo Qz (M.toNat:Int)) d ?_ ?_
 ·(intro m c;clear c;go_simp;first|(rw[Qq];omega)|(simp[Qx,Qy,Qt];omega)|(rw[QH oo]))
 try simp only[qQ]
 refine ac 16 99 (v:=Qo QA (M.toNat:Int)) d ?_ ?_
 ·(intro m c;clear c;go_simp;first|(rw[Qq];omega)|(simp[Qx,Qy,Qt];omega)|(rw[QH oo]))
 try simp only[qQ]
 refine aF 17 λK hK=>?_
 rw[if_pos (by rfl)];refine abd _ rfl J M rfl ?_;have Q:(λy:QB=>SE w q v o g (pN L) y) (wd.alloc (QL (Bs [J,M]) 5)):=d.keep (bR.alloc nR _);have b7:=gc (cap:=2) (Blk.new wd (Bs [J,M]) 5) 2 rfl;refine hK.out _ _ Q ?_;clear hK K d;simp only[Act.put,List.setIfInBounds_toArray];refine aF 18 λK hK=>?_
 go_simp;refine hK.out _ _ Q ?_;try simp only[qQ]
 clear hK K b7;generalize wd.alloc (QL (Bs [J,M]) 5)=we at Q|-;obtain⟨mk,A1⟩:∃mk:ByteArray,Op.stringOp .add ⟨#[35]⟩ ⟨#[J,M]⟩=pure (Qn mk):=⟨_,bB _ _ (by show 1+2<=_;decide)⟩
 refine ae 19 102 (v:=Qn mk) Q ?_;refine ac 20 13 (v:=Qn mk) Q ?_ ?_
 .exact λm _=>rfl
 try simp only[qQ]
 refine aC ?_;replace a:=Qh Q;clear Q A1;clear b8 b9 a9;replace a:Hid (SE w q v o g (uA L mk 0) we):=by rw[Vh];exact a
 go_wp2_with fail;go_loopw [12,14] (λok i wr=> ∃k:Nat,ok=.bool true/\i=Qo Qz (k:Int)/\k<=L.length+2/\Hid (SE w q v o g (uA L mk k) wr)) (λ_ i _=>L.length+2-(QN i).toNat)
 case atStart=>exact⟨0,rfl,rfl,oo,a⟩
 case round=>
  clear a;obtain⟨k,rfl,rfl,hk,a⟩:=hrel;by_cases ao:k<L.length+2
  .have d1:(k:Int)<(L.length:Int)+2:=oo
   have d0:(0:Int)<=(k:Int):=oo
   obtain⟨O,f1⟩:=a.out.at k (by rw[AM _ _ _ hk];exact ao);by_cases bX:k<L.length
   .rw[Zy _ _ _ bX]at O;obtain⟨b,off,hp,hb,hc⟩:=hL.out k bX;have Z:wr.cell? ⟨w.heap.size,6,none⟩=some (Qm (some ⟨b,off,none⟩) L.length o.cp):=by rw[<-hp,<-hn];exact a.out.ho.cell 6
    have cc:wr.cell? ⟨b,off+k,none⟩=some (Qn (aM L k)):=by rw[a.out.hb.cell (p:=⟨b,off+k,none⟩) hb];exact hc
    have d2:(k:Int)<(L.length:Int):=oo
    clear hc hp;generalize aM L k=NL at O cc;go_wp2_with fail;go_quiet (fail)
    have bq:QM wr.heap.size wr (wr.drewN nq):=QD bR nq;have F:=a.out.keep bq;clear a bq O f1 Z cc;generalize wr.drewN nq=f at F|-;obtain⟨O,f1⟩:=F.at k (by rw[AM _ _ _ hk];exact ao);have G:=F.set k mk;rw[Np _ _ _ ao]at G;replace G:=Qh G;clear F;go_wp2_with fail;go_roundw
    case rel=>exact⟨k+1,rfl,gn,oo,G⟩
    case measure=>simp[QN];omega
   .have d2:¬(k:Int)<(L.length:Int):=oo
    go_wp2_with fail;go_quiet (fail)
    have bq:QM wr.heap.size wr (wr.drewN nq):=QD bR nq;have F:=a.out.keep bq;clear a bq O f1;generalize wr.drewN nq=f at F|-;obtain⟨O,f1⟩:=F.at k (by rw[AM _ _ _ hk];exact ao);have G:=F.set k mk;rw[Np _ _ _ ao]at G;replace G:=Qh G;clear F;go_wp2_with fail;go_roundw
    case rel=>exact⟨k+1,rfl,gn,oo,G⟩
    case measure=>simp[QN];omega
  .obtain rfl:k=L.length+2:=oo
   have d1:¬(L.length:Int)+2<(L.length:Int)+2:=oo
   replace a:Hid (SE w q v o g (Qa (L.length+2) mk) wr):=by rw[<-Xk];exact a
   obtain⟨_,g1,g2,ay⟩:=hS.out;have co:=a.out.gl;have hG:=ay.keep (q:=q) a.out.hb.size I (λb hb _=>a.out.hb.block b hb);have bh:=Kp.of a.out.hb b6 I;have a1:=ay.l1;have a2:=ay.l2;have cd:=a.out.hb.size;obtain⟨t,r,n,wa,ga,bY,bb,ax⟩:=hG.app1 oo hT g (L.length+2) mk oo oo oo oo a.out.ha;have a4:Blk wa q v.cs 43:=(ax.block q I).trans a.out.hq;obtain⟨A,B,N,C,D,E⟩:=Wv.at a.out.hq;obtain⟨x0,x1,x2,x3,x4,x5⟩:=Wv.at a4;have fa:=a4.frozen 4;have ag:Blk (wa.setCell ⟨q,4,none⟩ (Qm t r n)) q ({v with lp:=t,ln:=r,lc:=n}:Wv).cs 43:=a4.setAt 4 _ rfl;have ah:=bb.set I 4 (Qm t r n);have an:=bh.trans ((Kp.of ax nR I).trans (Kp.set z q wa 4 (Qm t r n)));have ba:z<=(wa.setCell ⟨q,4,none⟩ (Qm t r n)).heap.size:=QT (QT oo ax.size) ((But.refl q wa).set 4 (Qm t r n)).below.size;replace ag:=Qh ag;replace ah:=Qh ah;replace an:=Qh an;clear hG ay bb ax a4 bh a a1 a2 cd;go_upto_region 20 with (at_builtin;refine Ca rfl _ _ 41 rfl 41 rfl _ _ rfl rfl _ _ bY ?_)
   clear A B N C D E x0 x1 x2 x3 x4 x5 fa bY;generalize wa.setCell ⟨q,4,none⟩ (Qm t r n)=wb at ag ah an ba|-;obtain⟨W,R,P,wc,gb,b3,bd,a6⟩:=ah.out.app2 ba hT g (L.length+2) mk;have a5:Blk wc q ({v with lp:=t,ln:=r,lc:=n}:Wv).cs 43:=(a6.block q I).trans ag.out;obtain⟨A,B,N,C,D,E⟩:=Wv.at ag.out;obtain⟨x0,x1,x2,x3,x4,x5⟩:=Wv.at a5;have fa:=a5.frozen 5;have ap:Hid (Blk (wc.setCell ⟨q,5,none⟩ (Qm W R P)) q ({v with lp:=t,ln:=r,lc:=n,mp:=W,mn:=R,mc:=P}:Wv).cs 43):=a5.setAt 5 _ rfl;have az:=Qh (bd.set I 5 (Qm W R P));have a7:=Qh (an.out.trans ((Kp.of a6 nR I).trans (Kp.set z q wc 5 (Qm W R P))));clear ah bd a6 a5 an ag ba;go_upto_region 21 with (at_builtin;refine Ca rfl _ _ 25 rfl 25 rfl _ _ rfl rfl _ _ b3 ?_)
   clear A B N C D E x0 x1 x2 x3 x4 x5 fa b3;generalize wc.setCell ⟨q,5,none⟩ (Qm W R P)=wd at ap az a7|-;have a8:Hid (Qd (T++ [(g,L.length+2,mk)])=Qd T+1):=by show Qd (T++ [(g,L.length+2,mk)])=Qd T+1;rw[List.length_append];rfl
   generalize T++ [(g,L.length+2,mk)]=T' at az a8;obtain⟨A,B,N,C,D,E⟩:=Wv.at ap.out;have fa:=ap.out.frozen 2;clear A B C D E;by_cases hY:Y=0
   .subst hY;go_wp2;go_ret;refine⟨rfl,({v with lp:=t,ln:=r,lc:=n,mp:=W,mn:=R,mc:=P,l:=X}:Wv),T',a8.out,⟨H.out.c,H.out.s,d,H.out.t⟩,⟨ap.out.setAt 2 _ rfl,ga,gb,az.out.set I 2 _⟩,a7.out.trans (Kp.set z q wd 2 _)⟩
   .have dY:(Y==0)=false:=by rw[beq_eq_false_iff_ne];exact hY
    go_wp2;go_ret;exact⟨rfl,({v with lp:=t,ln:=r,lc:=n,mp:=W,mn:=R,mc:=P}:Wv),T',a8.out,⟨H.out.c,H.out.s,H.out.l,H.out.t⟩,⟨ap.out,ga,gb,az.out⟩,a7.out⟩
end Go.Proofs.YtclpbaokadfhhaaGreatDoor
