import Derived.Test.YtclpbaokadfhhaaGreatDoorZr
set_option maxRecDepth 100000
set_option maxHeartbeats 4000000
open List renaming length_set->Qa,set_eq_of_length_le->Qc,set_set->Qd,replicate->Qe,getD_eq_getElem?_getD->Qf,getD->Qg
open Go.IntKind renaming i64->Qi,wrap_i64->Qj
open Go.Obj renaming cells->Qk
open Go renaming below_setRow->Qm,bodyPost_ret->Qn,World->Qo,heap_alloc2_old->Qp,heap_alloc2_new->Qq
open Go.Value renaming string->Qt,agg->Qx,int->Qy
open Go.RowKit renaming intOf->Qz,Below->QA
open UInt8 renaming ofNat->QB
namespace Go.Proofs.YtclpbaokadfhhaaGreatDoor
open Go.RowKit
open Blk renaming alloc->QC,new->QD
def Us(l:List Nat):Array Value:=(l.map λn:Nat=>Qy Qi (n:Int)).toArray
theorem SM(l:List Nat):(Us l).size=l.length:=by simp[Us]
theorem Uz{l:List Nat}{n:Nat}(h:l.length=n):(Us l).size=n:=by rw[SM,h]
theorem acA(l:List Nat)(i:Nat)(h:i<l.length):(Us l)[i]? =some (Qy Qi ((l.getD i 0:Nat):Int)):=by
 simp[Us,Qg,h]
theorem N9(l:List Nat)(i:Nat)(x:Nat):(Us l).setIfInBounds i (Qy Qi (x:Int))=Us (l.set i x):=by
 simp[Us,List.map_set]
theorem sg(l:List Nat):(Us l).all (·.oneCell')=true:=by
 rw[Array.all_eq_true_iff_forall_mem];intro v a;simp only[Us,List.mem_toArray,List.mem_map]at a;obtain⟨n,_,rfl⟩:=a;rfl
def Po_none17:List Nat:=Qe 17 0
def tb(p:List Nat×Nat)(i:Nat):List Nat×Nat:=(p.1.set i ((p.1.getD i 0+p.2)%256),(p.1.getD i 0+p.2)/256)
def bg(l:List Nat)(c:Nat):Nat->List Nat×Nat
 |0=>(l,c)
 |k+1=>tb (bg l c k) k
theorem gj(l:List Nat)(c:Nat):∀k,(bg l c k).1.length=l.length
 |0=>rfl
 |k+1=>by rw[bg,tb,Qa,gj l c k]
theorem fJ(l:List Nat)(i x:Nat)(h:i<l.length):(l.set i x).getD i 0=x:=by simp[Qg,h]
theorem fI(l:List Nat)(i j x:Nat)(h:i≠j):(l.set i x).getD j 0=l.getD j 0:=by simp[Qg,h]
theorem kG(l:List Nat)(c:Nat):∀k j,k<=j->(bg l c k).1.getD j 0=l.getD j 0
 |0,_,_=>rfl
 |k+1,j,h=>by rw[bg,tb,fI _ _ _ _ (by omega),kG l c k j (by omega)]
theorem qv(l:List Nat)(c M:Nat)(a:∀i,l.getD i 0<=M)(b:c<=M):∀k,(bg l c k).2<=M
 |0=>b
 |k+1=>by
  have d:=kG l c k k nR;have h2:=a k;have e:=qv l c M a b k;rw[bg,tb,d];show(l.getD k 0+(bg l c k).2)/256<=M
  omega
theorem ta(l:List Nat)(c M:Nat)(h0:255<=M)(a:∀i,l.getD i 0<=M):∀k i,(bg l c k).1.getD i 0<=M
 |0,i=>a i
 |k+1,i=>by
  rw[bg,tb];by_cases e:k=i
  .subst e;by_cases b:k<(bg l c k).1.length
   .rw[fJ _ _ _ b];omega
   .rw[Qc (by omega)];exact ta l c M h0 a k k
  .rw[fI _ _ _ _ e];exact ta l c M h0 a k i
def fT(l:List Nat):Nat:=(bg l 0 16).1.getD 16 0+(bg l 0 16).2
def dJ(l:List Nat):List Nat:=(bg l 0 16).1.set 16 (fT l%4)
def bf(l:List Nat):List Nat:=(bg (dJ l) (fT l/4*5) 16).1.set 16 ((bg (dJ l) (fT l/4*5) 16).1.getD 16 0+(bg (dJ l) (fT l/4*5) 16).2)
theorem I2(l:List Nat)(M:Nat)(h0:255<=M)(a:∀i,l.getD i 0<=M)(i:Nat):(dJ l).getD i 0<=M:=by
 unfold dJ;by_cases e:16=i
 .subst e;by_cases b:16<(bg l 0 16).1.length
  .rw[fJ _ _ _ b];omega
  .rw[Qc oo];exact ta l 0 M h0 a 16 16
 .rw[fI _ _ _ _ e];exact ta l 0 M h0 a 16 i
theorem EB(l:List Nat)(M:Nat)(h0:255<=M)(a:∀i,l.getD i 0<=M):fT l<=2*M:=by
 unfold fT;have b:=ta l 0 M h0 a 16 16;have h2:=qv l 0 M a oo 16;omega
theorem tC(l:List Nat):(dJ l).length=l.length:=by unfold dJ;rw[Qa,gj]
theorem ou(l:List Nat):(bf l).length=l.length:=by unfold bf;rw[Qa,gj,tC]
theorem Tryz.info17:(Tryz.prog.info? 229).map (·.size)=some 17:=kr
theorem m7:Ty 229 17:=⟨_,Tryz.underlying229,rfl,Tryz.info17⟩
theorem Bd(w:Qo):Sem.run Tryz.prog (zeroValue 229) w=.ok (Qx (Us Po_none17)) w:=kr
theorem dX{w:Qo}{b t:Nat}{l:List Nat}(h:Blk w b (Us l) t)(i:Nat)(a:i<l.length):w.cell? ⟨b,i,none⟩=some (Qy Qi ((l.getD i 0:Nat):Int)):=by
 have:=h.cell i;rw[acA l i a]at this;exact this
theorem jt{w wr:Qo}{B t:Nat}{l:List Nat}(b:Blk wr B (Us l) t)(f:w.heap.size<=B)(d:QA w.heap.size w wr)(i x:Nat)(v:Int)(h:v=(x:Int)):
  Blk (wr.setCell ⟨B,i,none⟩ (Qy Qi v)) B (Us (l.set i x)) t/\(∀b' a c,b'≠B->Blk wr b' a c->Blk (wr.setCell ⟨B,i,none⟩ (Qy Qi v)) b' a c)/\QA w.heap.size w (wr.setCell ⟨B,i,none⟩ (Qy Qi v)):=by
 subst h;refine⟨?_,?_,d.setCell f _⟩
 .rw[b.set,N9];exact b.row _
 .intro b' a c g e;rw[b.set];exact e.other g _
def pz(s:ByteArray)(k:Nat):ByteArray:=s++⟨(Qe k 0).toArray⟩
theorem Fq(s:Qb)(k:Nat):(pz s k).data.toList=s.data.toList++Qe k 0:=by unfold pz;simp
theorem Su(s:Qb)(k:Nat):(pz s k).size=s.size+k:=by
 have:=congrArg List.length (Fq s k);simpa using this
theorem Im{a b:Qb}(h:a.data.toList=b.data.toList):a=b:=by
 cases a;cases b
 simp only[Array.toList_inj]at h;rw[h]
theorem ZE(s:Qb):pz s 0=s:=Im (by rw[Fq];simp)
theorem ZF(s:Qb)(k:Nat):pz s k++⟨#[0]⟩=pz s (k+1):=by
 refine Im ?_;rw[Fq,ByteArray.data_append,Array.toList_append,Fq,List.append_assoc,List.replicate_succ']
theorem OC(s:Qb)(w:Qo)(q:s.size<=1000000):
  Calls Tryz.prog 198 #[Qt s] w λe w'=>e=.returned (Qt (bS s))/\w'=w:=by
 have b:Hid (bS s=pz s (cj s.size)):=rfl;have h:cj s.size=(16-s.size%16)%16:=rfl;generalize bS s=R at b|-;generalize cj s.size=f at b h;go_enter Tryz.func198,Tryz.ntmps198;go_wp2_with fail;go_loopw [0] (λv wr=> ∃k:Nat,k<=f/\v=Qt (pz s k)/\wr=w) (λv _=>match v with| Qt z=>f+s.size-z.size|_=>0)
 case atStart=>exact⟨0,oo,by rw[ZE],rfl⟩
 case round=>
  obtain⟨k,o,rfl,rfl⟩:=hrel;have d:=Su s k;have a:=ZF s k;have l:=Su s (k+1);by_cases p:k<f
  .have m:Hid (pz s (k+1)=pz s (k+1)):=rfl;generalize c:pz s (k+1)=g at a l;generalize pz s k=Z at d a;have i:((Z.size:Int)%16==0)=false:=by rw[beq_eq_false_iff_ne];omega
   have j:¬((Z.size:Int)%16=0):=oo
   have n:Op.stringOp .add Z ⟨#[0]⟩=pure (Qt g):=by
    rw[bB _ _ (by show Z.size+1<=_;omega),a]
   clear a;replace c:=Qh c;go_wp2;go_roundw
   case rel=>exact⟨k+1,oo,by rw[c.out],trivial⟩
   case measure=>dsimp only;omega
  .obtain rfl:k=f:=oo
   rw[<-b.out]at d|-;have i:((R.size:Int)%16==0)=true:=by rw[beq_iff_eq];omega
   have j:((R.size:Int)%16=0):=oo
   go_wp2;go_ret;exact⟨rfl,rfl⟩
theorem Ex(l:List Nat)(w:Qo)(G:l.length=17)(S:∀i,l.getD i 0<=100000000000000):
  Rw 261 #[Qx (Us l)] w (Qx (Us (bf l))):=by
 have ag:=Uz G;have hz:=Bd;have b:Blk ((w.alloc (Qk (Us l) 229)).alloc (Qk (Us Po_none17) 229)) w.heap.size (Us l) 229:=Qp w _ _;have p:Blk ((w.alloc (Qk (Us l) 229)).alloc (Qk (Us Po_none17) 229)) (w.heap.size+1) (Us Po_none17) 229:=Qq w _ _;have o:QA w.heap.size w ((w.alloc (Qk (Us l) 229)).alloc (Qk (Us Po_none17) 229)):=(bR.alloc nR _).alloc ss _;have E:=Qh S;clear S;have j:Hid (bf l=(bg (dJ l) (fT l/4*5) 16).1.set 16 ((bg (dJ l) (fT l/4*5) 16).1.getD 16 0+(bg (dJ l) (fT l/4*5) 16).2)):=rfl;generalize bf l=R at j|-;go_enter Tryz.func261,Tryz.ntmps261;go_wp2_with fail;generalize (w.alloc (Qk (Us l) 229)).alloc (Qk (Us Po_none17) 229)=w1 at b p o|-;go_loopw [3,4] (λc i wr=> ∃k:Nat,k<=16/\i=Qy Qi k/\c=Qy Qi ((bg l 0 k).2:Nat)/\Blk wr w.heap.size (Us (bg l 0 k).1) 229/\Blk wr (w.heap.size+1) (Us Po_none17) 229/\QA w.heap.size w wr) (λ_ i _=>16-(Qz i).toNat)
 case atStart=>exact⟨0,oo,rfl,rfl,b,p,o⟩
 case round=>
  clear b p o;obtain⟨k,hk,rfl,rfl,b,p,o⟩:=hrel;by_cases ad:k<16
  .have k0:(k:Int)<16:=oo
   have D:=qv l 0 100000000000000 E.out oo k;have n:=kG l 0 k k nR;have s:=E.out k;have P:(bg l 0 k).1.length=17:=by rw[gj,G]
   have f:Hid (bg l 0 (k+1)=((bg l 0 k).1.set k (((bg l 0 k).1.getD k 0+(bg l 0 k).2)%256),((bg l 0 k).1.getD k 0+(bg l 0 k).2)/256)):=rfl;rw[n]at f;have e:=dX b k oo;rw[n]at e;generalize (bg l 0 k).1=r at b P f e;generalize (bg l 0 k).2=y at D f|-;generalize l.getD k 0=x at s f e;clear n;have F:=b.frozen k;have a:=jt (w:=w) b nR o k (x+y) ((x:Int)+(y:Int)) oo;have z:=dX a.1 k (by rw[Qa];omega);rw[fJ _ _ _ oo]at z;have K:=a.1.frozen k;have g:=jt (w:=w) a.1 nR a.2.2 k ((x+y)%256) (((x:Int)+(y:Int))%256) oo;rw[Qd]at g;go_wp2;go_roundw
   case rel=>
    refine⟨k+1,oo,gn,?_,?_,g.2.1 _ _ _ oo (a.2.1 _ _ _ oo p),g.2.2⟩
    .rw[f.out];exact cH oo
    .rw[f.out];exact g.1
   case measure=>simp[Qz];omega
  .have I:k=16:=oo
   subst I;rw[show ((16:Nat):Int)=16 from rfl];have P:(bg l 0 16).1.length=17:=by rw[gj,G]
   have Q:=EB l 100000000000000 oo E.out;have C:Hid (∀i,(dJ l).getD i 0<=300000000000000):=λi=>by have:=I2 l 100000000000000 oo E.out i;omega
   have O:(dJ l).length=17:=by rw[tC,G]
   have B:Hid (dJ l=(bg l 0 16).1.set 16 (fT l%4)):=rfl;have t:fT l=(bg l 0 16).1.getD 16 0+(bg l 0 16).2:=rfl;have e:=dX b 16 oo;generalize dJ l=h at j C O B;generalize fT l=m at j B Q t;generalize (bg l 0 16).1=r at b P e B t;generalize (bg l 0 16).2=y at t|-;generalize r.getD 16 0=x at e t;have F:=b.frozen 16;have a:=jt (w:=w) b nR o 16 m (m:Int) rfl;have z:=dX a.1 16 (by rw[Qa];omega);rw[fJ _ _ _ oo]at z;have K:=a.1.frozen 16;have g:=jt (w:=w) a.1 nR a.2.2 16 (m%4) ((m:Int)%4) oo;rw[Qd,<-B.out]at g;have A:=g.2.1 _ _ _ (show w.heap.size+1≠w.heap.size by omega) (a.2.1 _ _ _ oo p);obtain⟨L,_,M⟩:=g;have em:Qi.wrap ((x:Int)+(y:Int))=(m:Int):=by rw[Qj];omega
   replace t:=Qh t;clear b p o a;go_wp2;clear e z F K em;generalize (wr.setCell ⟨w.heap.size,16,none⟩ (Qy Qi (m:Int))).setCell ⟨w.heap.size,16,none⟩ (Qy Qi ((m:Int)%4))=w2 at L A M|-;have T:(m:Int)/4*5=((m/4*5:Nat):Int):=oo
   rw[T];have N:m/4*5<=300000000000000:=oo
   generalize m/4*5=d at j N|-;clear T Q t B;go_loopw [3,5] (λc i wr=> ∃k:Nat,k<=16/\i=Qy Qi k/\c=Qy Qi ((bg h d k).2:Nat)/\Blk wr w.heap.size (Us (bg h d k).1) 229/\Blk wr (w.heap.size+1) (Us Po_none17) 229/\QA w.heap.size w wr) (λ_ i _=>16-(Qz i).toNat)
   case atStart=>exact⟨0,oo,rfl,rfl,L,A,M⟩
   case round=>
    clear L A M;obtain⟨k,hk,rfl,rfl,b,p,o⟩:=hrel;by_cases ad:k<16
    .have k0:(k:Int)<16:=oo
     have D:=qv h d 300000000000000 C.out N k;have n:=kG h d k k nR;have s:=C.out k;have H:(bg h d k).1.length=17:=by rw[gj,O]
     have f:Hid (bg h d (k+1)=((bg h d k).1.set k (((bg h d k).1.getD k 0+(bg h d k).2)%256),((bg h d k).1.getD k 0+(bg h d k).2)/256)):=rfl;rw[n]at f;have e:=dX b k oo;rw[n]at e;generalize (bg h d k).1=Z at b H f e;generalize (bg h d k).2=q at D f|-;generalize h.getD k 0=u at s f e;clear n;have F:=b.frozen k;have a:=jt (w:=w) b nR o k (u+q) ((u:Int)+(q:Int)) oo;have z:=dX a.1 k (by rw[Qa];omega);rw[fJ _ _ _ oo]at z;have K:=a.1.frozen k;have g:=jt (w:=w) a.1 nR a.2.2 k ((u+q)%256) (((u:Int)+(q:Int))%256) oo;rw[Qd]at g;go_wp2;go_roundw
     case rel=>
      refine⟨k+1,oo,gn,?_,?_,g.2.1 _ _ _ oo (a.2.1 _ _ _ oo p),g.2.2⟩
      .rw[f.out];exact cH oo
      .rw[f.out];exact g.1
     case measure=>simp[Qz];omega
    .have I:k=16:=oo
     subst I;rw[show ((16:Nat):Int)=16 from rfl];have H:(bg h d 16).1.length=17:=by rw[gj,O]
     have D:=qv h d 300000000000000 C.out N 16;have n:=kG h d 16 16 nR;have s:=C.out 16;rw[<-n]at s;have e:=dX b 16 oo;replace j:=j.out;generalize (bg h d 16).1=Z at b H e j s n;generalize (bg h d 16).2=q at D j|-;clear n;generalize Z.getD 16 0=u at s j e;have F:=b.frozen 16;have a:=jt (w:=w) b nR o 16 (u+q) ((u:Int)+(q:Int)) oo;rw[<-j]at a;have ab:R.length=17:=by rw[j,Qa,H]
     have J:=Uz ab;have A:=a.2.1 _ _ _ (show w.heap.size+1≠w.heap.size by omega) p;have W:=a.1;have X:=A;unfold Blk at W X;clear j;go_wp2_with (first
      |(refine ld m7 rfl rfl w.heap.size rfl W J ?_)
      |(refine st m7 rfl rfl (w.heap.size+1) rfl rfl X J rfl (sg _) ?_))
     refine Qn (v:=Qx (Us R)) ?_ rfl ⟨rfl,Qm a.2.2 oo _⟩;exact rr m7 rfl rfl (A.row _) J
def zA(l:List Nat)(i:Nat):List Nat:=(l.set (i+1) (l.getD (i+1) 0+l.getD i 0/256)).set i (l.getD i 0%256)
def dG(l:List Nat):Nat->List Nat
 |0=>l
 |k+1=>zA (dG l k) k
theorem n9(l:List Nat):∀k,(dG l k).length=l.length
 |0=>rfl
 |k+1=>by rw[dG,zA,Qa,Qa,n9 l k]
theorem Am(l:List Nat)(a:∀i,l.getD i 0<=1000):∀k,(∀i,(dG l k).getD i 0<=2000)/\ ∀i,k<i->(dG l k).getD i 0<=1000
 |0=>⟨λi=>by have:=a i;show l.getD i 0<=2000;omega,λi _=>a i⟩
 |k+1=>by
  obtain⟨d,h2⟩:=Am l a k;have h:=d k;have j:=h2 (k+1) oo;have g:∀i,(dG l (k+1)).getD i 0<=2000/\(k+1<i->(dG l (k+1)).getD i 0<=1000):=λi=>by
   rw[dG,zA];by_cases e:k=i
   .subst e;by_cases b:k<(dG l k).length
    .rw[fJ _ _ _ (by rw[Qa];exact b)];omega
    .rw[Qc (by rw[Qa];omega),Qc oo];omega
   .rw[fI _ _ _ _ e];by_cases c:k+1=i
    .subst c;by_cases b:k+1<(dG l k).length
     .rw[fJ _ _ _ b];omega
     .rw[Qc oo];omega
    .rw[fI _ _ _ _ c];exact⟨d i,λf=>h2 i oo⟩
  exact⟨λi=>(g i).1,λi f=>(g i).2 f⟩
def rh(a b c:List Nat)(i k:Nat):List Nat:=if i+k<17 then c.set (i+k) (c.getD (i+k) 0+a.getD i 0*b.getD k 0)else c.set (i+k-17) (c.getD (i+k-17) 0+320*a.getD i 0*b.getD k 0)
def nj(a b c:List Nat)(i:Nat):Nat->List Nat
 |0=>c
 |k+1=>rh a b (nj a b c i k) i k
def dM(a b:List Nat):Nat->List Nat
 |0=>Po_none17
 |i+1=>nj a b (dM a b i) i 17
theorem IR(a b c:List Nat)(i k:Nat):(rh a b c i k).length=c.length:=by unfold rh;split<;>rw[Qa]
theorem tA(a b c:List Nat)(i:Nat):∀k,(nj a b c i k).length=c.length
 |0=>rfl
 |k+1=>by rw[nj,IR,tA a b c i k]
theorem iI(a b:List Nat):∀i,(dM a b i).length=17
 |0=>rfl
 |i+1=>by rw[dM,tA,iI a b i]
theorem IU{x y:Nat}(a:x<=1023)(b:y<=1023):x*y<=1046529:=Nat.mul_le_mul a b
theorem qN(c:List Nat)(j v M:Nat)(h:∀i,c.getD i 0<=M)(b:v<=M)(i:Nat):(c.set j v).getD i 0<=M:=by
 by_cases e:j=i
 .subst e;by_cases a:j<c.length
  .rw[fJ _ _ _ a];exact b
  .rw[Qc oo];exact h j
 .rw[fI _ _ _ _ e];exact h i
theorem CP(a b c:List Nat)(i M:Nat)(e:∀i,a.getD i 0<=1023)(f:∀i,b.getD i 0<=1023)(g:∀j,c.getD j 0<=M):∀k j,(nj a b c i k).getD j 0<=M+334889280*k
 |0,j=>g j
 |k+1,j=>by
  have d:=CP a b c i M e f g k;have h:=IU (e i) (f k);rw[nj,rh];split
  .exact qN _ _ _ _ (λq=>by have:=d q;omega) (by have:=d (i+k);omega) j
  .exact qN _ _ _ _ (λq=>by have:=d q;omega) (by have:=d (i+k-17);rw[Nat.mul_assoc];omega) j
theorem sW(i:Nat):Po_none17.getD i 0=0:=by
 unfold Po_none17;rw[Qf,List.getElem?_replicate];split<;>rfl
theorem tZ(a b:List Nat)(c:∀i,a.getD i 0<=1023)(d:∀i,b.getD i 0<=1023):∀i j,(dM a b i).getD j 0<=5693117760*i
 |0,j=>by rw[dM,sW];omega
 |i+1,j=>by
  have:=CP a b (dM a b i) i (5693117760*i) c d (tZ a b c d i) 17 j;rw[dM];omega
theorem MJ(l:List Nat)(M:Nat)(h0:255<=M)(b:∀i,l.getD i 0<=M):∀i,(bf l).getD i 0<=10*M:=λi=>by
 have a:=I2 l M h0 b;have h2:=EB l M h0 b;unfold bf;refine qN _ _ _ _ (λq=>?_) ?_ i
 .have:=ta (dJ l) (fT l/4*5) M h0 a 16 q;omega
 .have c:=ta (dJ l) (fT l/4*5) M h0 a 16 16;have d:=qv (dJ l) (fT l/4*5) (3*M) (λq=>by have:=a q;omega) oo 16;omega
def ms(a b:List Nat):List Nat:=bf (bf (dM a b 17))
theorem MI(l:List Nat)(w:Qo)(m:l.length=17)(o:∀i,l.getD i 0<=1000):
  Rw 262 #[Qx (Us l)] w (Qx (Us (dG l 16))):=by
 have J:=Uz m;have K:=Bd;have a:Blk ((w.alloc (Qk (Us l) 229)).alloc (Qk (Us Po_none17) 229)) w.heap.size (Us l) 229:=Qp w _ _;have b:Blk ((w.alloc (Qk (Us l) 229)).alloc (Qk (Us Po_none17) 229)) (w.heap.size+1) (Us Po_none17) 229:=Qq w _ _;have c:QA w.heap.size w ((w.alloc (Qk (Us l) 229)).alloc (Qk (Us Po_none17) 229)):=(bR.alloc nR _).alloc ss _;have z:=Qh o;clear o;have p:(dG l 16).length=17:=by rw[n9,m]
 generalize j:dG l 16=R at p|-;replace j:=Qh j;go_enter Tryz.func262,Tryz.ntmps262;go_wp2_with fail;generalize (w.alloc (Qk (Us l) 229)).alloc (Qk (Us Po_none17) 229)=M at a b c|-;go_loopw [3] (λi wr=> ∃k:Nat,k<=16/\i=Qy Qi k/\Blk wr w.heap.size (Us (dG l k)) 229/\Blk wr (w.heap.size+1) (Us Po_none17) 229/\QA w.heap.size w wr) (λi _=>16-(Qz i).toNat)
 case atStart=>exact⟨0,oo,rfl,a,b,c⟩
 case round=>
  clear a b c;obtain⟨k,H,rfl,a,b,c⟩:=hrel;by_cases I:k<16
  .have L:(k:Int)<16:=oo
   have h:=Am l z.out k;have q:=h.1 k;have s:=h.1 (k+1);clear h;have E:(dG l k).length=17:=by rw[n9,m]
   have e:Hid (dG l (k+1)=((dG l k).set (k+1) ((dG l k).getD (k+1) 0+(dG l k).getD k 0/256)).set k ((dG l k).getD k 0%256)):=rfl;generalize dG l k=r at a E e q s;have B:=dX a k oo;have C:=dX a (k+1) oo;have F:=a.frozen (k+1);generalize n:r.getD k 0=x at B q e;generalize r.getD (k+1) 0=y at C s e;have d:=jt (w:=w) a nR c (k+1) (y+x/256) ((y:Int)+(x:Int)/256) oo;have D:=dX d.1 k (by rw[Qa];omega);rw[fI _ _ _ _ oo,n]at D;have G:=d.1.frozen k;have f:=jt (w:=w) d.1 nR d.2.2 k (x%256) ((x:Int)%256) oo;rw[<-e.out]at f;replace n:=Qh n;go_wp2_with fail;go_region
   all_goals
    go_wp2;go_roundw
    case rel=>exact⟨k+1,oo,gn,f.1.drew,(f.2.1 _ _ _ oo (d.2.1 _ _ _ oo b)).drew,f.2.2.drew⟩
    case measure=>simp[Qz];omega
  .have A:k=16:=oo
   subst A;rw[show ((16:Nat):Int)=16 from rfl];rw[j.out]at a;have g:=Uz p;have t:=a;have u:=b;unfold Blk at t u;go_wp2_with (first
    |(refine ld m7 rfl rfl w.heap.size rfl t g ?_)
    |(refine st m7 rfl rfl (w.heap.size+1) rfl rfl u g rfl (sg _) ?_))
   refine Qn (v:=Qx (Us R)) ?_ rfl ⟨rfl,Qm c oo _⟩;exact rr m7 rfl rfl (b.row _) g
theorem aaw(a b:List Nat)(w:Qo)(ha:a.length=17)(hb:b.length=17)(B:∀i,a.getD i 0<=1023)(C:∀i,b.getD i 0<=1023):
  Rw 238 #[Qx (Us a),Qx (Us b)] w (Qx (Us (ms a b))):=by
 have a0:=Uz ha;have a1:=Uz hb;have hz:=Bd;have u:=Qh B;have E:=Qh C;have K:=Qr λJ=>Ex _ J (iI a b 17) (λi=>by have:=tZ a b B C 17 i;omega)
 have F:Hid (Rv 261 #[Qx (Us (bf (dM a b 17)))] (Qx (Us (ms a b)))):=λJ=>Ex _ J (by rw[ou,iI]) (MJ _ _ oo (λi=>by have:=tZ a b B C 17 i;omega:∀i,(dM a b 17).getD i 0<=10000000000000))
 clear B C;have l:=QC (QC (QC (QD w (Us a) 229) (Qk (Us b) 229)) (Qk (Us Po_none17) 229)) (Qk (Us Po_none17) 229);have h:=QC (QC (QD (w.alloc (Qk (Us a) 229)) (Us b) 229) (Qk (Us Po_none17) 229)) (Qk (Us Po_none17) 229);have e:=QC (QD ((w.alloc (Qk (Us a) 229)).alloc (Qk (Us b) 229)) (Us Po_none17) 229) (Qk (Us Po_none17) 229);have d:=QD (((w.alloc (Qk (Us a) 229)).alloc (Qk (Us b) 229)).alloc (Qk (Us Po_none17) 229)) (Us Po_none17) 229;have g:QA w.heap.size w ((((w.alloc (Qk (Us a) 229)).alloc (Qk (Us b) 229)).alloc (Qk (Us Po_none17) 229)).alloc (Qk (Us Po_none17) 229)):=
  (((bR.alloc nR _).alloc ss _).alloc (by simp;omega) _).alloc (by simp;omega) _
 rw[show (w.alloc (Qk (Us a) 229)).heap.size=w.heap.size+1 by simp]at h;rw[show ((w.alloc (Qk (Us a) 229)).alloc (Qk (Us b) 229)).heap.size=w.heap.size+1+1 by simp]at e;rw[show (((w.alloc (Qk (Us a) 229)).alloc (Qk (Us b) 229)).alloc (Qk (Us Po_none17) 229)).heap.size=w.heap.size+1+1+1 by simp]at d;have O:(ms a b).length=17:=by unfold ms;rw[ou,ou,iI]
 generalize ms a b=R at F O|-;go_enter Tryz.func238,Tryz.ntmps238;go_wp2_with fail;generalize (((w.alloc (Qk (Us a) 229)).alloc (Qk (Us b) 229)).alloc (Qk (Us Po_none17) 229)).alloc (Qk (Us Po_none17) 229)=w1 at l h e d g|-;go_loopw [6] (λi wr=> ∃k:Nat,k<=17/\i=Qy Qi k/\Blk wr (w.heap.size+1+1+1) (Us (dM a b k)) 229/\Blk wr w.heap.size (Us a) 229/\Blk wr (w.heap.size+1) (Us b) 229/\Blk wr (w.heap.size+1+1) (Us Po_none17) 229/\QA w.heap.size w wr) (λi _=>17-(Qz i).toNat)
 case atStart=>exact⟨0,oo,rfl,d,l,h,e,g⟩
 case round=>
  clear l h e d g;obtain⟨i,hi,rfl,d,l,h,e,g⟩:=hrel;by_cases az:i<17
  .have i0:(i:Int)<17:=oo
   go_wp2_with fail;go_loopw [7] (λq wr=> ∃k:Nat,k<=17/\q=Qy Qi k/\Blk wr (w.heap.size+1+1+1) (Us (nj a b (dM a b i) i k)) 229/\Blk wr w.heap.size (Us a) 229/\Blk wr (w.heap.size+1) (Us b) 229/\Blk wr (w.heap.size+1+1) (Us Po_none17) 229/\QA w.heap.size w wr) (λq _=>17-(Qz q).toNat)
   case atStart=>exact⟨0,oo,rfl,d,l,h,e,g⟩
   case round=>
    clear l h e d g;obtain⟨k,hk,rfl,d,l,h,e,g⟩:=hrel;by_cases ay:k<17
    .have k0:(k:Int)<17:=oo
     have P:(nj a b (dM a b i) i k).length=17:=by rw[tA,iI]
     have n:=CP a b (dM a b i) i _ u.out E.out (tZ a b u.out E.out i) k;have c:Hid (nj a b (dM a b i) i (k+1)=rh a b (nj a b (dM a b i) i k) i k):=rfl;have L:=dX l i oo;have M:=dX h k oo;have o:=IU (u.out i) (E.out k);by_cases A:i+k<17
     .have p:=n (i+k);generalize nj a b (dM a b i) i k=r at d P n c p;have G:=dX d (i+k) oo;have hf:=d.frozen (i+k);unfold rh at c;rw[if_pos A]at c;generalize a.getD i 0=x at L o c;generalize b.getD k 0=y at M o c;generalize r.getD (i+k) 0=z at G p c;generalize t:x*y=m at o c;have s:(x:Int)*(y:Int)=(m:Int):=by rw[<-t];exact(Int.natCast_mul x y).symm
      have f:=jt (w:=w) d oo g (i+k) (z+m) ((z:Int)+(m:Int)) oo;rw[<-c.out]at f;have X:Qi.wrap ((x:Int)*(y:Int))=(m:Int):=by rw[s,Qj];omega
      have ao:Qi.wrap ((i:Int)+(k:Int))=(i:Int)+(k:Int):=by rw[Qj];omega
      have ap:((i:Int)+(k:Int)).toNat=i+k:=oo
      have ax:(i:Int)+(k:Int)<17:=oo
      have a3:(0:Int)<=(i:Int)+(k:Int):=oo
      have ab:decide ((i:Int)+(k:Int)<17)=true:=decide_eq_true oo;clear n s t c;go_wp2_with fail;go_region
      all_goals
       go_wp2;go_roundw
       case rel=>exact⟨k+1,oo,gn,f.1.drew,(f.2.1 _ _ _ oo l).drew,(f.2.1 _ _ _ oo h).drew,(f.2.1 _ _ _ oo e).drew,f.2.2.drew⟩
       case measure=>simp[Qz];omega
     .have p:=n (i+k-17);generalize nj a b (dM a b i) i k=r at d P n c p;unfold rh at c;rw[if_neg A]at c;generalize N:i+k-17=j at p c;have G:=dX d j oo;have hf:=d.frozen j;have an:=u.out i;generalize a.getD i 0=x at L o c an;generalize b.getD k 0=y at M o c;generalize r.getD j 0=z at G p c;rw[Nat.mul_assoc]at c;generalize t:x*y=m at o c;have s:(320*(x:Int))*(y:Int)=((320*m:Nat):Int):=by rw[<-t,Int.mul_assoc];simp
      have f:=jt (w:=w) d oo g j (z+320*m) ((z:Int)+((320*m:Nat):Int)) oo;rw[<-c.out]at f;have a2:Qi.wrap (320*(x:Int))=320*(x:Int):=by rw[Qj];omega
      have X:Qi.wrap (320*(x:Int)*(y:Int))=((320*m:Nat):Int):=by rw[s,Qj];omega
      have ao:Qi.wrap ((i:Int)+(k:Int))=(i:Int)+(k:Int):=by rw[Qj];omega
      have ap:Qi.wrap ((i:Int)+(k:Int)-17)=(j:Int):=by rw[Qj];omega
      have ax:(j:Int)<17:=oo
      have ab:decide ((i:Int)+(k:Int)<17)=false:=decide_eq_false oo;replace N:=Qh N;replace A:=Qh A;clear n s t c;have ah:320*m<=334889280:=oo
      generalize 320*m=p3 at f X ah|-;go_wp2_with fail;go_region
      all_goals
       go_wp2;go_roundw
       case rel=>exact⟨k+1,oo,gn,f.1.drew,(f.2.1 _ _ _ oo l).drew,(f.2.1 _ _ _ oo h).drew,(f.2.1 _ _ _ oo e).drew,f.2.2.drew⟩
       case measure=>simp[Qz];omega
    .have ag:k=17:=oo
     subst ag;rw[show ((17:Nat):Int)=17 from rfl];go_wp2_with fail;go_roundw
     case rel=>exact⟨i+1,oo,gn,d,l,h,e,g⟩
     case measure=>simp[Qz];omega
  .have ad:i=17:=oo
   subst ad;rw[show ((17:Nat):Int)=17 from rfl];have Q:=iI a b 17;generalize dM a b 17=T at d Q K F;have sT:=Uz Q;have I:=d;unfold Blk at I;go_wp2_with (refine ld m7 rfl rfl (w.heap.size+1+1+1) rfl I sT ?_);refine gv K λw2 D=>?_
   go_wp2_with fail;refine gv F λw3 H=>?_
   replace e:=(e.keep D).keep H;have Z:=(g.trans (D.mono g.size)).trans (H.mono (Nat.le_trans g.size D.size));have W:=Uz O;have S:=e;unfold Blk at S;clear I D H g l h d;go_wp2_with (refine st m7 rfl rfl (w.heap.size+1+1) rfl rfl S W rfl (sg _) ?_);refine Qn (v:=Qx (Us R)) ?_ rfl ⟨rfl,Qm Z oo _⟩;exact rr m7 rfl rfl (e.row _) W
theorem CV(l:List Nat)(c:Nat)(a:16<l.length):∀k i,k<=16->i<k->(bg l c k).1.getD i 0<=255
 |0,i,_,h=>by omega
 |k+1,i,b,h=>by
  rw[bg,tb];by_cases e:k=i
  .subst e;rw[fJ _ _ _ (by rw[gj];omega)];omega
  .rw[fI _ _ _ _ e];exact CV l c a k i (by omega) (by omega)
theorem I4(l:List Nat)(c:Nat)(h:∀i,i<16->l.getD i 0<=255):∀k,k<=16->(bg l c k).2<=1+c/256^k
 |0,_=>by show c<=1+c/256^0;simp
 |k+1,d=>by
  have a:=kG l c k k nR;have h2:=h k oo;have b:=I4 l c h k oo;rw[bg,tb,a];show(l.getD k 0+(bg l c k).2)/256<=1+c/256^(k+1)
  rw[Nat.pow_succ,<-Nat.div_div_eq_div_mul];omega
theorem Ry(l:List Nat)(b:l.length=17)(i:Nat)(a:i<16):(dJ l).getD i 0<=255:=by
 unfold dJ;rw[fI _ _ _ _ oo];exact CV l 0 oo 16 i oo a
theorem Rx(l:List Nat)(a:l.length=17):(dJ l).getD 16 0<=3:=by
 unfold dJ;rw[fJ _ _ _ (by rw[gj];omega)];omega
def Po_Byt(l:List Nat):Prop:=l.length=17/\(∀i,i<16->l.getD i 0<=255)/\l.getD 16 0<=4
theorem Po_Byt.all{l:List Nat}(h:Po_Byt l)(i:Nat):l.getD i 0<=255:=by
 by_cases a:i<16
 .exact h.2.1 i a
 .by_cases h2:i=16
  .subst h2;have:=h.2.2;omega
  .rw[Qf,List.getElem?_eq_none (by rw[h.1];omega)];simp
theorem oL(l:List Nat)(a:l.length=17)(b:∀i,l.getD i 0<=100000000000000):Po_Byt (bf l):=by
 have h2:=EB l 100000000000000 oo b;have g:(dJ l).length=17:=by rw[tC,a]
 refine⟨by rw[ou,a],λi c=>?_,?_⟩
 .unfold bf;rw[fI _ _ _ _ oo];exact CV (dJ l) _ oo 16 i oo c
 .unfold bf;rw[fJ _ _ _ (by rw[gj];omega),kG _ _ 16 16 nR];have d:=Rx l a;have e:=I4 (dJ l) (fT l/4*5) (Ry l a) 16 oo;have f:fT l/4*5/256^16=0:=Nat.div_eq_of_lt (by have:(256:Nat)^16=340282366920938463463374607431768211456:=(dd);omega);omega
def jm(l:List Nat):List Nat:=(bf l).set 0 ((bf l).getD 0 0+5)
def iY(l:List Nat):List Nat:=dG (jm l) 16
def iZ(l:List Nat):List Nat:=if 4<=(iY l).getD 16 0 then(iY l).set 16 ((iY l).getD 16 0-4)else bf l
theorem CT(l:List Nat)(h:Po_Byt (bf l))(i:Nat):(jm l).getD i 0<=1000:=by
 unfold jm;exact qN _ _ _ _ (λq=>by have:=h.all q;omega) (by have:=h.all 0;omega) i
theorem aaz(l:List Nat)(w:Qo)(P:l.length=17)(M:∀i,l.getD i 0<=100000000000000):
  Rw 239 #[Qx (Us l)] w (Qx (Us (iZ l))):=by
 have ad:=Uz P;have hz:=Bd;have b:=oL l P M;have HC:=Qr λwx=>Ex l wx P M
 have H:Hid (Rv 262 #[Qx (Us (jm l))] (Qx (Us (iY l)))):=λwx=>MI _ wx (by unfold jm;rw[Qa,b.1]) (CT l b)
 have a:Hid (iZ l=if 4<=(iY l).getD 16 0 then(iY l).set 16 ((iY l).getD 16 0-4)else bf l):=rfl;have Q:(iY l).length=17:=by unfold iY jm;rw[n9,Qa,b.1]
 have u:Hid (jm l=(bf l).set 0 ((bf l).getD 0 0+5)):=rfl;have ag:=b.all 0;have G:(Us (jm l)).size=17:=by rw[SM];unfold jm;rw[Qa,b.1]
 have E:=(Am (jm l) (CT l b) 16).1 16;replace E:(iY l).getD 16 0<=2000:=E;have ab:=b.1;generalize iZ l=R at a|-;generalize iY l=O at H a Q E;generalize jm l=D at H u G;generalize bf l=C at HC a u ag ab b;clear b M;have k:=Uz ab;have sO:=Uz Q;have c:Blk ((w.alloc (Qk (Us l) 229)).alloc (Qk (Us Po_none17) 229)) w.heap.size (Us l) 229:=Qp w _ _;have j:Blk ((w.alloc (Qk (Us l) 229)).alloc (Qk (Us Po_none17) 229)) (w.heap.size+1) (Us Po_none17) 229:=Qq w _ _;have f:QA w.heap.size w ((w.alloc (Qk (Us l) 229)).alloc (Qk (Us Po_none17) 229)):=(bR.alloc nR _).alloc ss _;have d:=c;unfold Blk at d;go_enter Tryz.func239,Tryz.ntmps239;go_wp2_with (refine ld m7 rfl rfl w.heap.size rfl d ad ?_);clear d;generalize (w.alloc (Qk (Us l) 229)).alloc (Qk (Us Po_none17) 229)=w1 at c j f|-;refine gv HC λw2 F=>?_
 replace c:=c.keep F;replace j:=j.keep F;replace f:=f.trans (F.mono f.size);clear F;have d:=c;unfold Blk at d;have z:=c.row (Us C);have I:=j.other (show w.heap.size+1≠w.heap.size by omega) (Us C);have n:=Qm f nR (Us C);have S:=j.lt;go_wp2_with (first
  |(refine st m7 rfl rfl w.heap.size rfl rfl d k ad (sg _) ?_;clear d c j f;have T:=size_setRow w2 w.heap.size (Us C);generalize w2.setRow w.heap.size (Us C)=e at z I n T|-;rw[<-T]at S;clear T;have W:=z;unfold Blk at W;have N:=QD e (Us Po_none17) 229;have X:=N;unfold Blk at X)
  |(refine ld m7 rfl rfl w.heap.size rfl W k ?_)
  |(refine st m7 rfl rfl e.heap.size rfl rfl X k rfl (sg _) ?_;have h:=N.row (Us C);have J:=(z.alloc (Qk (Us Po_none17) 229)).other (show w.heap.size≠e.heap.size by omega) (Us C);have K:=(I.alloc (Qk (Us Po_none17) 229)).other (show w.heap.size+1≠e.heap.size by omega) (Us C);have L:=Qm (n.alloc n.size (Qk (Us Po_none17) 229)) n.size (Us C);have hq:=S;clear W X N z I n S;generalize (e.alloc (Qk (Us Po_none17) 229)).setRow e.heap.size (Us C)=w4 at h J K L|-;generalize e.heap.size=q at h hq|-;have g1:=dX h 0 oo;generalize C.getD 0 0=x0 at g1 ag u;have f1:=h.frozen 0;have m:=jt (w:=w) h oo L 0 (x0+5) ((x0:Int)+5) oo;have A:=m.2.1 _ _ _ (show w.heap.size≠q by omega) J;have B:=m.2.1 _ _ _ (show w.heap.size+1≠q by omega) K;rw[<-u.out]at m;have Z:=m.1;unfold Blk at Z)
  |(refine ld m7 rfl rfl q rfl Z G ?_))
 clear Z g1 f1 h J K L;obtain⟨s,_,t⟩:=m;generalize w4.setCell ⟨q,0,none⟩ (Qy Qi ((x0:Int)+5))=w5 at s t A B|-;refine gv H λw6 o=>?_
 replace s:=s.keep o;replace A:=A.keep o;replace B:=B.keep o;replace t:=t.trans (o.mono t.size);clear o;have q6:=s;unfold Blk at q6;have s1:=s.row (Us O);have s2:=A.other (show w.heap.size≠q by omega) (Us O);have s3:=B.other (show w.heap.size+1≠q by omega) (Us O);have sb:=Qm (g:=q) t oo (Us O);have g2:=dX s1 16 oo;have f2:=s1.frozen 16;generalize O.getD 16 0=y at g2 E a;by_cases h4:4<=y
 .have y4:decide ((y:Int)>=4)=true:=decide_eq_true oo;have ap:decide ((4:Int)<=(y:Int))=true:=decide_eq_true oo;replace a:=a.out;rw[if_pos h4]at a;have x:=jt (w:=w) s1 oo sb 16 (y-4) ((y:Int)-4) oo;rw[<-a]at x;have ao:R.length=17:=by rw[a,Qa,Q]
  have sR:=Uz ao;have ah:=x.2.1 _ _ _ (show w.heap.size+1≠q by omega) s3;have p:=x.1;have r:=ah;unfold Blk at p r;clear a;have an:(4:Int)<=(y:Int):=oo
  go_wp2_with (first
   |(refine st m7 rfl rfl q rfl rfl q6 sO G (sg _) ?_)
   |(refine ld m7 rfl rfl q rfl p sR ?_)
   |(refine st m7 rfl rfl (w.heap.size+1) rfl rfl r sR rfl (sg _) ?_))
  refine Qn (v:=Qx (Us R)) ?_ rfl ⟨rfl,Qm x.2.2 oo _⟩;exact rr m7 rfl rfl (ah.row _) sR
 .have y4:decide ((y:Int)>=4)=false:=decide_eq_false oo;have ap:decide ((4:Int)<=(y:Int))=false:=decide_eq_false oo;replace a:=a.out;rw[if_neg h4]at a;subst a;have p:=s2;have r:=s3;unfold Blk at p r;have an:¬(4:Int)<=(y:Int):=oo
  go_wp2_with (first
   |(refine st m7 rfl rfl q rfl rfl q6 sO G (sg _) ?_)
   |(refine ld m7 rfl rfl w.heap.size rfl p k ?_)
   |(refine st m7 rfl rfl (w.heap.size+1) rfl rfl r k rfl (sg _) ?_))
  refine Qn (v:=Qx (Us R)) ?_ rfl ⟨rfl,Qm sb oo _⟩;exact rr m7 rfl rfl (s3.row _) k
def lu(f:Nat->Nat)(i:Nat):Nat:=if i%4=3 then f i%16 else if i%4=0/\0<i then f i-f i%4 else f i
def iC(f:Nat->Nat):Nat->List Nat
 |0=>Po_none17
 |k+1=>(iC f k).set k (f k)
theorem tB(f:Nat->Nat):∀k,(iC f k).length=17
 |0=>rfl
 |k+1=>by rw[iC,Qa,tB f k]
theorem CQ(f:Nat->Nat)(M:Nat)(h:∀i,f i<=M):∀k i,(iC f k).getD i 0<=M
 |0,i=>by rw[iC,sW];omega
 |k+1,i=>by rw[iC];exact qN _ _ _ _ (CQ f M h k) (h k) i
theorem Mg(f:Nat->Nat)(h:∀i,f i<=255)(i:Nat):lu f i<=255:=by
 have:=h i;unfold lu;split
 .omega
 .split<;>omega
def iD(d:Nat->Nat)(h:List Nat):Nat->List Nat
 |0=>h
 |k+1=>(iD d h k).set k ((iD d h k).getD k 0+d k)
theorem pg(d:Nat->Nat)(h:List Nat):∀k,(iD d h k).length=h.length
 |0=>rfl
 |k+1=>by rw[iD,Qa,pg d h k]
theorem ED(d:Nat->Nat)(h:List Nat):∀k i,k<=i->(iD d h k).getD i 0=h.getD i 0
 |0,_,_=>rfl
 |k+1,i,a=>by rw[iD,fI _ _ _ _ (by omega),ED d h k i (by omega)]
theorem An(d:Nat->Nat)(h:List Nat)(b:∀i,d i<=255)(a:∀i,h.getD i 0<=255):∀k i,(iD d h k).getD i 0<=510
 |0,i=>by have:=a i;show h.getD i 0<=510;omega
 |k+1,i=>by
  rw[iD];refine qN _ _ _ _ (An d h b a k) ?_ i;rw[ED d h k k nR];have:=b k;have:=a k;omega
def i8(d:Nat->Nat)(h:List Nat):List Nat:=(iD d h 16).set 16 ((iD d h 16).getD 16 0+1)
def jk(r:List Nat)(D:Nat->Nat->Nat):Nat->List Nat
 |0=>Po_none17
 |j+1=>ms (i8 (D j) (jk r D j)) r
theorem Dx(d:Nat->Nat)(h:List Nat)(a:∀i,d i<=255)(b:∀i,h.getD i 0<=255)(i:Nat):(i8 d h).getD i 0<=1023:=by
 unfold i8;refine qN _ _ _ _ (λq=>?_) ?_ i
 .have:=An d h a b 16 q;omega
 .have:=An d h a b 16 16;omega
theorem FL(d:Nat->Nat)(h:List Nat):(i8 d h).length=h.length:=by unfold i8;rw[Qa,pg]
theorem OO(a b:List Nat)(d:∀i,a.getD i 0<=1023)(e:∀i,b.getD i 0<=1023):Po_Byt (ms a b):=by
 unfold ms;have c:=oL (dM a b 17) (iI a b 17) (λi=>by have:=tZ a b d e 17 i;omega);exact oL _ c.1 (λi=>by have:=c.all i;omega)
theorem yO(r:List Nat)(D:Nat->Nat->Nat)(b:∀i,r.getD i 0<=1023)(a:∀j i,D j i<=255):∀j,Po_Byt (jk r D j)
 |0=>⟨rfl,λi _=>by rw[jk,sW];omega,by rw[jk,sW];omega⟩
 |j+1=>OO _ _ (Dx _ _ (a j) (yO r D b a j).all) b
def eD(h:List Nat)(s:Nat->Nat):Nat->List UInt8×Nat
 |0=>([],0)
 |k+1=>((eD h s k).1++ [QB (((eD h s k).2+h.getD k 0+s k)%256)],((eD h s k).2+h.getD k 0+s k)/256)
theorem rI(h:List Nat)(s:Nat->Nat):∀k,(eD h s k).1.length=k
 |0=>rfl
 |k+1=>by rw[eD,List.length_append,rI h s k];rfl
theorem Mh(h:List Nat)(s:Nat->Nat)(a:∀i,h.getD i 0<=2000)(b:∀i,s i<=255):∀k,(eD h s k).2<=2000
 |0=>by show 0<=2000;omega
 |k+1=>by
  have:=Mh h s a b k;have:=a k;have:=b k;show((eD h s k).2+h.getD k 0+s k)/256<=2000
  omega
theorem Ru(l:List Nat)(d:l.length=17)(c:∀i,l.getD i 0<=100000000000000)(i:Nat):(iZ l).getD i 0<=2000:=by
 have a:=oL l d c;have b:=(Am (jm l) (CT l a) 16).1;unfold iZ;split
 .exact qN _ _ _ _ (λq=>b q) (by have:=b 16;show(dG (jm l) 16).getD 16 0-4<=2000;omega) i
 .have:=a.all i;omega
theorem I1(l:List Nat)(c:l.length=17)(b:∀i,l.getD i 0<=100000000000000):(iZ l).length=17:=by
 have a:=oL l c b;unfold iZ iY jm;split
 .rw[Qa,n9,Qa,a.1]
 .exact a.1
def kC(f:Nat->Nat):List Nat:=iC (lu f) 16
def sK(f:Nat->Nat)(D:Nat->Nat->Nat)(n:Nat):List UInt8:=(eD (iZ (jk (kC f) D n)) (λi=>f (16+i)) 16).1
def byN(s:ByteArray)(i:Nat):Nat:=(s.data.toList.getD i 0).toNat
theorem tT(s:Qb)(i:Nat):byN s i<=255:=by unfold byN;have:=(s.data.toList.getD i 0).toNat_lt;omega
theorem abx(n:Nat):dj (n%256) 1=[QB (n%256)]:=by
 show []++ [QB (n%256/256^0%256)]=_
 simp
theorem D7(s:Qb)(i:Int)(n:Nat)(h0:0<=i)(a:i.toNat=n)(h:n<s.size)(w:Qo):
  (Instr.index 9 (Qt s) (Qy Qi i)).run Tryz.prog w=.ok (Qy .u8 ((byN s n:Nat):Int)) w:=mM s i n h0 a h w
theorem Yv(b data:Qb)(n:Nat)(w:Qo)(hk:b.size=32)(hd:data.size=16*n)(hn:n<=60000):
  Rw 197 #[Qt b,Qt data] w (Qt ⟨(sK (byN b) (λj i=>byN data (16*j+i)) n).toArray⟩):=by
 have HD:Hid (∀j i,(λj i=>byN data (16*j+i)) j i<=255):=λj i=>tT _ _
 have HF:=Qh (tT b);have Z:Hid (∀i,(kC (byN b)).getD i 0<=1023):=λi=>by have:=CQ (lu (byN b)) 255 (Mg _ (tT b)) 16 i;show(iC (lu (byN b)) 16).getD i 0<=1023;omega
 have N:Hid (sK (byN b) (λj i=>byN data (16*j+i)) n=(eD (iZ (jk (kC (byN b)) (λj i=>byN data (16*j+i)) n)) (λi=>byN b (16+i)) 16).1):=rfl;have a2:Hid (iC (lu (byN b)) 16=kC (byN b)):=rfl;generalize sK (byN b) (λj i=>byN data (16*j+i)) n=R at N|-;have hz:=Bd;have s:=QD w (Us Po_none17) 229;have f:QA w.heap.size w (w.alloc (Qk (Us Po_none17) 229)):=bR.alloc nR _;go_enter Tryz.func197,Tryz.ntmps197;go_wp2_with fail;generalize w.alloc (Qk (Us Po_none17) 229)=w1 at s f|-;go_loopw [6] (λi wr=> ∃k:Nat,k<=16/\i=Qy Qi k/\Blk wr w.heap.size (Us (iC (lu (byN b)) k)) 229/\QA w.heap.size w wr) (λi _=>16-(Qz i).toNat)
 case atStart=>exact⟨0,oo,rfl,s,f⟩
 case round=>
  clear s f;obtain⟨k,a4,rfl,s,f⟩:=hrel;by_cases bx:k<16
  .have k0:(k:Int)<16:=oo
   have k1:(0:Int)<=(k:Int):=oo
   have T:=D7 b (k:Int) k oo oo oo;have bt:=tB (lu (byN b)) k;have d:Hid (iC (lu (byN b)) (k+1)=(iC (lu (byN b)) k).set k (lu (byN b) k)):=rfl;have m:Hid (lu (byN b) k=if k%4=3 then byN b k%16 else if k%4=0/\0<k then byN b k-byN b k%4 else byN b k):=rfl;have hx:=HF.out k;generalize lu (byN b) k=ra at d m;generalize byN b k=x at T m hx;generalize iC (lu (byN b)) k=r at s bt d;have f1:=s.frozen k;have G:=dX s k oo;have e:=jt (w:=w) s nR f k x (x:Int) rfl;have g2:=dX e.1 k (by rw[Qa];omega);rw[fJ _ _ _ oo]at g2;have f2:=e.1.frozen k;by_cases C:k%4=3
   .have d3:((k:Int)%4==3)=true:=by rw[beq_iff_eq];omega
    have d0:((k:Int)%4==0)=false:=by rw[beq_eq_false_iff_ne];omega
    replace m:=m.out;rw[if_pos C]at m;have E:=jt (w:=w) e.1 nR e.2.2 k (x%16) ((x:Int)%16) oo;rw[Qd,<-m,<-d.out]at E;clear m;replace C:=Qh C;go_wp2;go_roundw
    case rel=>exact⟨k+1,oo,gn,E.1,E.2.2⟩
    case measure=>simp[Qz];omega
   .have d3:((k:Int)%4==3)=false:=by rw[beq_eq_false_iff_ne];omega
    by_cases h0:k%4=0/\0<k
    .have d0:((k:Int)%4==0)=true:=by rw[beq_iff_eq];omega
     have dp:decide ((k:Int)>0)=true:=decide_eq_true oo;have bb:decide ((0:Int)<(k:Int))=true:=decide_eq_true oo;have bd:(0:Int)<(k:Int):=oo
     have bh:=decide_eq_true h0.2;replace m:=m.out;rw[if_neg C,if_pos h0]at m;have E:=jt (w:=w) e.1 nR e.2.2 k (x-x%4) ((x:Int)-(x:Int)%4) oo;rw[Qd,<-m,<-d.out]at E;clear m;replace C:=Qh C;replace h0:=Qh h0;go_wp2_with fail;go_region
     all_goals
      go_wp2;go_roundw
      case rel=>exact⟨k+1,oo,gn,E.1.drew,E.2.2.drew⟩
      case measure=>simp[Qz];omega
    .replace m:=m.out;rw[if_neg C,if_neg h0]at m;replace d:=d.out;rw[m]at d;rw[<-d]at e;clear m d g2 f2;replace C:=Qh C;by_cases a7:k=0
     .have d0:((k:Int)%4==0)=true:=by rw[beq_iff_eq];omega
      have dp:decide ((k:Int)>0)=false:=decide_eq_false oo;have bb:decide ((0:Int)<(k:Int))=false:=decide_eq_false oo;have bd:¬(0:Int)<(k:Int):=oo
      have bh:decide (0<k)=false:=decide_eq_false oo;have bY:¬0<k:=oo
      replace a7:=Qh a7;replace h0:=Qh h0;go_wp2;go_roundw
      case rel=>exact⟨k+1,oo,gn,e.1,e.2.2⟩
      case measure=>simp[Qz];omega
     .have d0:((k:Int)%4==0)=false:=by rw[beq_eq_false_iff_ne];omega
      replace h0:=Qh h0;go_wp2;go_roundw
      case rel=>exact⟨k+1,oo,gn,e.1,e.2.2⟩
      case measure=>simp[Qz];omega
  .have W:k=16:=oo
   subst W;rw[show ((16:Nat):Int)=16 from rfl];rw[a2.out]at s;clear a2 HF;have lr:(kC (byN b)).length=17:=tB _ _;generalize kC (byN b)=r at s Z N lr;have sr:=Uz lr;have ad:=QD wr (Us Po_none17) 229;have v:=s.alloc (Qk (Us Po_none17) 229);have an:QA w.heap.size w (wr.alloc (Qk (Us Po_none17) 229)):=f.alloc f.size _;have hq:=s.lt;clear s f;go_wp2_with fail;generalize wr.alloc (Qk (Us Po_none17) 229)=w2 at ad v an|-;generalize wr.heap.size=q at ad hq|-;have S:=Qh (yO _ _ Z.out HD.out);have a3:=Qh λa M h1 h2=>aaw a r M h1 lr h2 Z.out
   have HH:Hid (∀j,jk r (λj i=>byN data (16*j+i)) (j+1)=ms (i8 (λi=>byN data (16*j+i)) (jk r (λj i=>byN data (16*j+i)) j)) r):=λ_=>rfl
   have H0:Hid (jk r (λj i=>byN data (16*j+i)) 0=Po_none17):=rfl;generalize jk r (λj i=>byN data (16*j+i))=HX at S HH H0 N;clear Z;go_loopw [8] (λi wr=> ∃j:Nat,j<=n/\i=Qy Qi (16*j:Nat)/\Blk wr q (Us (HX j)) 229/\Blk wr w.heap.size (Us r) 229/\QA w.heap.size w wr) (λi _=>16*n-(Qz i).toNat)
   case atStart=>exact⟨0,oo,rfl,by rw[H0.out];exact ad,v,an⟩
   case round=>
    clear ad v an;obtain⟨j,hj,rfl,l,v,f⟩:=hrel;by_cases bx:j<n
    .have p:=S.out j;have D:=HH.out j;generalize HX j=h at l p D;have X:=p.1;have ay:Hid (∀k i,(iD (λi=>byN data (16*j+i)) h k).getD i 0<=510):=An _ _ (λi=>tT _ _) p.all;have az:Hid (∀i,(i8 (λi=>byN data (16*j+i)) h).getD i 0<=1023):=Dx _ _ (λi=>tT _ _) p.all;have ax:(i8 (λi=>byN data (16*j+i)) h).length=17:=by rw[FL,X]
     have Q:Hid (i8 (λi=>byN data (16*j+i)) h=(iD (λi=>byN data (16*j+i)) h 16).set 16 ((iD (λi=>byN data (16*j+i)) h 16).getD 16 0+1)):=rfl;replace D:=Qh D;generalize i8 (λi=>byN data (16*j+i)) h=bi at D az ax Q;replace p:=Qh p;have dl:decide ((((16*j:Nat):Int))<(data.size:Int))=true:=decide_eq_true oo;have dm:decide ((data.size:Int)-((16*j:Nat):Int)<16)=false:=decide_eq_false oo;have bz:(data.size:Int)-((16*j:Nat):Int)>=16:=oo
     generalize O:16*j=B at dl dm bz;have a0:B+16<=data.size:=oo
     replace O:=Qh O;have ab:B<=1000000:=by have:=O.out;omega
     go_wp2_with fail;go_loopw [10] (λi wr=> ∃k:Nat,k<=16/\i=Qy Qi k/\Blk wr q (Us (iD (λi=>byN data (16*j+i)) h k)) 229/\Blk wr w.heap.size (Us r) 229/\QA w.heap.size w wr) (λi _=>16-(Qz i).toNat)
     case atStart=>exact⟨0,oo,rfl,l,v,f⟩
     case round=>
      clear l v f;obtain⟨k,a4,rfl,l,v,f⟩:=hrel;by_cases bs:k<16
      .have k0:(k:Int)<16:=oo
       have k1:(0:Int)<=(k:Int):=oo
       have T:=D7 data ((B:Int)+(k:Int)) (B+k) oo oo oo;have d:Hid (iD (λi=>byN data (16*j+i)) h (k+1)=(iD (λi=>byN data (16*j+i)) h k).set k ((iD (λi=>byN data (16*j+i)) h k).getD k 0+byN data (16*j+k))):=rfl;rw[show 16*j+k=B+k by have:=O.out;omega]at d;have ap:=tT data (B+k);have I:=ay.out k k;have lA:(iD (λi=>byN data (16*j+i)) h k).length=17:=by rw[pg,X]
       generalize byN data (B+k)=y at T ap d;generalize iD (λi=>byN data (16*j+i)) h k=A at l I d lA;have G:=dX l k oo;have f1:=l.frozen k;generalize A.getD k 0=x at G I d;have e:=jt (w:=w) l oo f k (x+y) ((x:Int)+(y:Int)) oo;rw[<-d.out]at e;have H:=e.2.1 _ _ _ (show w.heap.size≠q by omega) v;have ei:Qi.wrap ((B:Int)+(k:Int))=(B:Int)+(k:Int):=by rw[Qj];omega
       go_wp2_with fail;go_region
       all_goals
        go_wp2;go_roundw
        case rel=>exact⟨k+1,oo,gn,e.1.drew,H.drew,e.2.2.drew⟩
        case measure=>simp[Qz];omega
      .have W:k=16:=oo
       subst W;rw[show ((16:Nat):Int)=16 from rfl];have lA:(iD (λi=>byN data (16*j+i)) h 16).length=17:=by rw[pg,X]
       have I:=ay.out 16 16;generalize iD (λi=>byN data (16*j+i)) h 16=A at l I lA Q;have G:=dX l 16 oo;have f1:=l.frozen 16;generalize A.getD 16 0=x at G I Q;have e:=jt (w:=w) l oo f 16 (x+1) ((x:Int)+1) oo;rw[<-Q.out]at e;have sb:=Uz ax;have H:=e.2.1 _ _ _ (show w.heap.size≠q by omega) v;obtain⟨t,_,u⟩:=e;have K:=t;have q2:=H;unfold Blk at K q2;have ah:=Qr λM=>a3.out bi M ax az.out
       rw[<-D.out]at ah;have lN:=(S.out (j+1)).1;generalize ao:HX (j+1)=Nx at ah lN D;have sN:=Uz lN;clear Q D l v f;go_wp2_with (first
        |(refine ld m7 rfl rfl q rfl K sb ?_)
        |(refine ld m7 rfl rfl w.heap.size rfl q2 sr ?_))
       clear K q2 G f1;generalize wr.setCell ⟨q,16,none⟩ (Qy Qi ((x:Int)+1))=w5 at t H u|-;refine gv ah λw6 J=>?_
       replace t:=t.keep J;replace H:=H.keep J;replace u:=u.trans (J.mono u.size);have P:=t;unfold Blk at P;replace ao:=Qh ao;go_wp2_with (refine st m7 rfl rfl q rfl rfl P sN sb (sg _) ?_);go_roundw
       case rel=>exact⟨j+1,oo,cH (by have:=O.out;omega),by rw[ao.out];exact t.row _,H.other (show w.heap.size≠q by omega) _,Qm u oo _⟩
       case measure=>simp[Qz];have:=O.out;omega
    .have bq:j=n:=oo
     subst bq;have dl:decide ((((16*j:Nat):Int))<(data.size:Int))=false:=decide_eq_false oo;have a9:¬16*j<data.size:=oo
     have ba:=decide_eq_false oo;have p:=S.out j;generalize HX j=h at l p N;have hM:∀i,h.getD i 0<=100000000000000:=λi=>by have:=p.all i;omega
     have a1:=Qr λM=>aaz h M p.1 hM
     have ag:=Qh (Ru h p.1 hM);have lL:=I1 h p.1 hM;have X:=p.1;clear hM p;generalize iZ h=L at a1 ag lL N;have sh:=Uz X;have sL:=Uz lL;have K:=l;unfold Blk at K;replace hd:=Qh hd;generalize 16*j=B at dl a9 ba|-;clear S a3 HH H0;go_wp2_with (refine ld m7 rfl rfl q rfl K sh ?_);clear K;refine gv a1 λw6 J=>?_
     replace l:=l.keep J;replace f:=f.trans (J.mono f.size);have P:=l;unfold Blk at P;have t:=l.row (Us L);have u:=Qm (g:=q) f oo (Us L);go_wp2_with (refine st m7 rfl rfl q rfl rfl P sL sh (sg _) ?_);clear P J l f v;generalize w6.setRow q (Us L)=w7 at t u|-;go_loopw [11,12,13] (λo c i wr=> ∃k:Nat,k<=16/\i=Qy Qi k/\o=Qt ⟨(eD L (λi=>byN b (16+i)) k).1.toArray⟩/\c=Qy Qi ((eD L (λi=>byN b (16+i)) k).2:Nat)/\Blk wr q (Us L) 229/\QA w.heap.size w wr) (λ_ _ i _=>16-(Qz i).toNat)
     case atStart=>exact⟨0,oo,rfl,rfl,rfl,t,u⟩
     case round=>
      clear t u;obtain⟨k,a4,rfl,rfl,rfl,t,u⟩:=hrel;by_cases bs:k<16
      .have k0:(k:Int)<16:=oo
       have k1:(0:Int)<=(k:Int):=oo
       have bk:=Mh L (λi=>byN b (16+i)) ag.out (λi=>tT _ _) k;have d:Hid (eD L (λi=>byN b (16+i)) (k+1)=((eD L (λi=>byN b (16+i)) k).1++ [QB (((eD L (λi=>byN b (16+i)) k).2+L.getD k 0+byN b (16+k))%256)],((eD L (λi=>byN b (16+i)) k).2+L.getD k 0+byN b (16+k))/256)):=rfl;have lo:=rI L (λi=>byN b (16+i)) k;have T:=D7 b (16+(k:Int)) (16+k) oo oo oo;have ap:=tT b (16+k);have I:=ag.out k;have G:=dX t k oo;generalize (eD L (λi=>byN b (16+i)) k).1=o at d lo|-;generalize (eD L (λi=>byN b (16+i)) k).2=F at d bk|-;generalize byN b (16+k)=y at T ap d;generalize L.getD k 0=x at G I d;have a5:=Qr λM=>by
        have:=mN (((F:Int)+(x:Int)+(y:Int))%256) 1 ((F+x+y)%256) 1 oo rfl oo oo M;rw[abx]at this;exact this
       have a8:Op.stringOp .add ⟨o.toArray⟩ ⟨[QB ((F+x+y)%256)].toArray⟩=pure (Qt ⟨(o++ [QB ((F+x+y)%256)]).toArray⟩):=by
        rw[bB _ _ (by show o.toArray.size+1<=_;rw[List.size_toArray];omega)];exact congrArg (λz=>pure (Qt z)) (ByteArray.mk_append_mk _ _)
       generalize a6: [QB ((F+x+y)%256)]=B1 at a5 a8 d;have ez:Qi.wrap ((F:Int)+(x:Int)+(y:Int))=(F:Int)+(x:Int)+(y:Int):=by rw[Qj];omega
       replace a6:=Qh a6;go_wp2_with fail;go_region
       all_goals
        go_wp2_with fail;refine gv a5 λw9 k9=>?_
        have p9:=t.drew.keep k9;have bX:=u.drew.trans (k9.mono u.drew.size);go_wp2;go_roundw
        case rel=>
         refine⟨k+1,oo,gn,?_,?_,p9,bX⟩
         .rw[d.out]
         .rw[d.out];exact cH oo
        case measure=>simp[Qz];omega
      .have W:k=16:=oo
       subst W;rw[<-N.out];go_wp2;go_ret;exact⟨rfl,u⟩
end Go.Proofs.YtclpbaokadfhhaaGreatDoor
