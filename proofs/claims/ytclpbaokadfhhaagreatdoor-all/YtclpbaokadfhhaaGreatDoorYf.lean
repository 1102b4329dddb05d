import Derived.Test.YtclpbaokadfhhaaGreatDoorZt
import Derived.Test.YtclpbaokadfhhaaGreatDoorZj
set_option maxRecDepth 100000
set_option maxHeartbeats 8000000
open Go.Value renaming string->Qa,slice->Qc,agg->Qd,int->Qe,bool->Qf,tuple->Qg
open Nat renaming mod_lt->Qi,div_eq_of_lt->Qj,div_div_eq_div_mul->Qk,div_add_mod->Qm,div_one->Qn,pow_zero->Qo,pow_succ->Qp,mod_eq_of_lt->Qq,sub_zero->Qt,lt_trans->Qx,div_lt_iff_lt_mul->Qy,pow_pos->Qz,mul_add->QA,add_mul_div_left->QB,mod_pow_succ->QC,mul_assoc->QD,zero_mod->QE,sub_self->QF,add_zero->QG,le_refl->QH
open Go.Proofs.Tryz renaming prog->QI,ntmps102->QJ,func102->QL,ntmps100->QM,func100->QN,underlying59->QO,ntmps240->QP,ntmps152->QQ,func240->QR,func152->QT
open Go renaming World->QU,Calls->QV,wpList_store_row->QW,below_drewN->QY,Value->QZ,heap_alloc2_new->Q0,storeCells->Q5
open List renaming append_assoc->Q6,size_toArray->Q7,nil_append->Q8,getD->Q9,length_append->Ja,length_set->Jb,append_nil->Jc,range->Jd
open Go.Obj renaming cells->Je
open Go.RowKit renaming Below->Jf,intOf->Jg
open ByteArray renaming size_append->Jh,size_extract->Ji,data_extract->Jj
open Go.Ending renaming returned->Jk
open Array renaming toArray_toList->Jl,all_eq_true_iff_forall_mem->Jm,getElem?_eq_some_iff->Jn
open Go.Op renaming stringOp->Jo
open Go.IntKind renaming i64->Jp,wrap_i64->Jq
open Go.RowKit.Below renaming refl->Jr
namespace Go.Proofs.YtclpbaokadfhhaaGreatDoor
open Go.RowKit
open Blk renaming new->Js
def aV(n i:Nat):Nat:=n/256^i%256
theorem rj(n i:Nat):aV n i<=255:=by unfold aV;omega
def jB(n x k:Nat):List Nat:=(Jd 33).map λi=>if i<k then aV n i else aV x i
def cl(n:Nat):List Nat:=(Jd 33).map λi=>aV n i
theorem jZ(n x k:Nat):(jB n x k).length=33:=by simp[jB]
theorem qw(n:Nat):(cl n).length=33:=by simp[cl]
theorem xZ(n x k i:Nat)(h:i<33):(jB n x k).getD i 0=if i<k then aV n i else aV x i:=by
 unfold jB;simp[Q9,h]
theorem zC(n i:Nat)(h:i<33):(cl n).getD i 0=aV n i:=by
 unfold cl;simp[Q9,h]
theorem AW(n x:Nat):jB n x 0=cl x:=by
 unfold jB cl;simp
theorem I9(n x:Nat):jB n x 33=cl n:=by
 unfold jB cl;apply List.map_congr_left
 intro i a;rw[if_pos (by simpa using a)]
theorem Gm{a b:List Nat}(h:a.length=b.length)(d:∀i,i<a.length->a.getD i 0=b.getD i 0):a=b:=by
 apply List.ext_getElem h
 intro i c h2;have:=d i c;simpa [Q9,c,h2]using this
theorem AY(n x k:Nat)(h:k<33):(jB n x k).set k (aV n k)=jB n x (k+1):=by
 refine Gm (by rw[Jb,jZ,jZ]) ?_;intro i a;rw[Jb,jZ]at a;by_cases e:k=i
 .subst e;rw[fJ _ _ _ (by rw[jZ];exact h),xZ _ _ _ _ h,if_pos oo]
 .rw[fI _ _ _ _ e,xZ _ _ _ _ a,xZ _ _ _ _ a];by_cases c:i<k
  .rw[if_pos c,if_pos oo]
  .rw[if_neg c,if_neg oo]
def Nb_ord:List Nat:=[237,211,245,92,26,99,18,88,214,156,247,162,222,249,222,20,0,0,0,0,0,0,0,0,0,0,0,0,0,0,0,16]
theorem Mi:∀i,i<32->Nb_ord.getD i 0=aV be i:=dk
theorem YC:aV be 32=0:=dk
theorem S7:be<256^32:=dk
def pW(x y k:Nat):Nat:=(x%256^k+y%256^k)/256^k
theorem Ka(x y:Nat):pW x y 0=0:=by unfold pW;simp[Nat.mod_one]
theorem OT(x y k:Nat):pW x y k<=1:=by
 unfold pW;have a:0<256^k:=Qz oo;have b:=Qi x a;have h2:=Qi y a;generalize 256^k=B at*;rw[<-Nat.lt_succ_iff,Qy a];omega
theorem Gn(x y k:Nat):aV (x+y) k=(pW x y k+aV x k+aV y k)%256/\pW x y (k+1)=(pW x y k+aV x k+aV y k)/256:=by
 have b:0<256^k:=Qz oo;unfold pW aV;constructor
 .have e:(x+y)/256^k=x/256^k+y/256^k+(x%256^k+y%256^k)/256^k:=by
   have c:=Qm x (256^k);have h2:=Qm y (256^k);generalize 256^k=B at*;have a:x+y=(x%B+y%B)+B*(x/B+y/B):=by rw[QA];omega
   rw[a,QB _ _ b];omega
  rw[e];omega
 .rw[QC,QC,Qp,<-Qk];generalize 256^k=B at*;have a:x%B+B*(x/B%256)+(y%B+B*(y/B%256))=(x%B+y%B)+B*(x/B%256+y/B%256):=by rw[QA];omega
  rw[a,QB _ _ b];congr 1
  omega
theorem I8(x k:Nat):x/256^k=256*(x/256^(k+1))+aV x k:=by
 unfold aV;rw[Qp,<-Qk];omega
theorem Mj{x y B:Nat}(b:0<B)(h:x/B<y/B):x<y:=by
 have c:=Qm x B;have h2:=Qm y B;have d:=Qi x b;have a:B*(x/B+1)<=B*(y/B):=Nat.mul_le_mul_left _ h;rw[QA]at a;omega
theorem OS{x y k:Nat}(h:x/256^(k+1)=y/256^(k+1))(e:aV x k≠aV y k):aV x k<aV y k↔x<y:=by
 have b:0<256^k:=Qz oo;have a:=I8 x k;have h2:=I8 y k;rw[h]at a;constructor
 .intro c;exact Mj b (by rw[a,h2];omega)
 .intro c;rcases Nat.lt_or_ge (aV x k) (aV y k)with d|d
  .exact d
  .have:y<x:=Mj b (by rw[a,h2];omega);omega
theorem Ug{x y k:Nat}(h:x/256^(k+1)=y/256^(k+1))(a:aV x k=aV y k):x/256^k=y/256^k:=by
 rw[I8 x k,I8 y k,h,a]
theorem OR{x:Nat}(h:x<256^33)(h0:aV x 32=0):x<256^32:=by
 unfold aV at h0;have:x/256^32<256:=by rw[Qy dd];rw[show (256:Nat)*256^32=256^33 by decide];exact h
 rw[Qq this]at h0;rcases Nat.div_eq_zero_iff.1 h0 with c|c
 .exact absurd c dd
 .exact c
theorem KZ(w:QU):QV QI 201 #[] w λe w'=>e=Jk (Qc (some ⟨w.heap.size,0,none⟩) 32 32)/\w'=w.alloc (Je (Us Nb_ord) 3):=by
 go_enter Tryz.func201,Tryz.ntmps201;go_wp2;go_ret;exact⟨rfl,rfl⟩
theorem SZ(x b cp:Nat)(w:QU)(C:x<256^33)(o:Blk w b (Us (cl x)) 3):
  Rw 152 #[Qc (some ⟨b,0,none⟩) 33 cp] w (Qf (decide (x<be))):=by
 have K:=o.lt;have d:=o.alloc (Je (Us Nb_ord) 3);have f:Blk (w.alloc (Je (Us Nb_ord) 3)) w.heap.size (Us Nb_ord) 3:=Js w _ _;have a:Jf w.heap.size w (w.alloc (Je (Us Nb_ord) 3)):=bR.alloc nR _;have m:=dX d 32 (by rw[qw];omega);rw[zC x 32 oo]at m;have E:=Qh C;clear C o;by_cases A:0<aV x 32
 .have e:decide (x<be)=false:=by
   rw[decide_eq_false_iff_not];intro c;have H:=Qx c S7;have:aV x 32=0:=by unfold aV;rw[Qj H]
   omega
  rw[e];generalize aV x 32=t at m A;have ht:(0:Int)<(t:Int):=oo
  have O:decide ((0:Int)<(t:Int))=true:=by rw[decide_eq_true_iff];exact ht
  go_enter QT,QQ;go_wp2_with (go_at_call 201;refine mo (KZ _) λr h=>?_;rw[h];clear h r);go_ret;exact⟨rfl,a⟩
 .obtain ht0:aV x 32=0:=oo
  rw[ht0]at m;have n:=OR E.out ht0;replace n:=Qh n;clear A ht0;have D:Hid (decide (x<be)=decide (x<be)):=rfl;generalize e:decide (x<be)=R at D|-;replace e:=Qh e;go_enter QT,QQ;go_wp2_with (go_at_call 201;refine mo (KZ _) λr h=>?_;rw[h];clear h r);clear m;generalize w.alloc (Je (Us Nb_ord) 3)=T at d f a|-;go_loopw [4] (λq wr=> ∃k:Nat,k<=32/\q=Qe Jp (31-(k:Int))/\x/256^(32-k)=be/256^(32-k)/\Blk wr b (Us (cl x)) 3/\Blk wr w.heap.size (Us Nb_ord) 3/\Jf w.heap.size w wr) (λq _=>(Jg q+1).toNat)
  case atStart=>
   refine⟨0,oo,rfl,?_,d,f,a⟩;rw[Qt,Qj n.out,Qj S7]
  case round=>
   clear d f a;obtain⟨k,M,rfl,g,d,f,a⟩:=hrel;by_cases N:k<32
   .obtain⟨j,L⟩:∃j,j+k=31:=⟨31-k,oo⟩
    rw[show (31:Int)-(k:Int)=(j:Int) by omega];rw[show 32-k=j+1 by omega]at g;have y:=dX d j (by rw[qw];omega);have z:=dX f j (by show j<32;omega);rw[zC x j oo]at y;rw[Mi j oo]at z;have i:= @OS x be j g;have l:= @Ug x be j g;replace i:=Qh i;replace l:=Qh l;have J:=Qh ((by omega:32-(k+1)=j));clear g;generalize aV x j=u at y i l;generalize aV be j=v at z i l;have P:(0:Int)<=(j:Int):=oo
    have Q:(j:Int)<33:=oo
    have S:(j:Int)<32:=oo
    by_cases B:u=v
    .subst B;have F:((u:Int) !=(u:Int))=false:=ss
     have p:=l.out rfl;replace p:=Qh p;go_wp2_with (go_quiet (fail));go_roundw
     case rel=>exact⟨k+1,oo,gn,by rw[J.out];exact p.out,d.drewN _,f.drewN _,QY a _⟩
     case measure=>simp[Jg]
    .have F:((u:Int) !=(v:Int))=true:=by simp;omega
     have s:=i.out B;have G:decide (u<v)=R:=by rw[<-e.out,decide_eq_decide,s]
     clear s;go_wp2_with (go_quiet (fail));go_ret;exact⟨by rw[<-G];rfl,QY (QY a _) _⟩
   .obtain rfl:k=32:=oo
    rw[show (31:Int)-((32:Nat):Int)= -1 by omega];have I:R=false:=by
     rw[<-e.out,decide_eq_false_iff_not];rw[show 32-32=0 from rfl,Qo,Qn,Qn]at g;omega
    subst I;clear g;go_wp2;go_ret;exact⟨rfl,a⟩
theorem uP{w wr:QU}{a B t:Nat}{l:List Nat}(c:Blk wr B (Us l) t)(g:a<=B)(e:Jf a w wr)(i x:Nat)(v:Int)(j:v=(x:Int)):
  Blk (wr.setCell ⟨B,i,none⟩ (Qe Jp v)) B (Us (l.set i x)) t/\(∀b' b d,b'≠B->Blk wr b' b d->Blk (wr.setCell ⟨B,i,none⟩ (Qe Jp v)) b' b d)/\Jf a w (wr.setCell ⟨B,i,none⟩ (Qe Jp v)):=by
 subst j;refine⟨?_,?_,e.setCell g _⟩
 .rw[c.set,N9];exact c.row _
 .intro b' b d h f;rw[c.set];exact f.other h _
theorem Rp(x b cp:Nat)(w:QU)(G:x<2*be)(p:Blk w b (Us (cl x)) 3):
  QV QI 240 #[Qc (some ⟨b,0,none⟩) 33 cp] w λe w'=>e=Jk (Qc (some ⟨b,0,none⟩) 33 cp)/\Blk w' b (Us (cl (x%be))) 3/\Jf b w w':=by
 have E:=p.lt;have J:x<256^33:=by
  have N:2*be<256^33:=dk
  exact Qx G N
 have y:=Qh λwx h=>SZ x b cp wx J h
 clear J;have z:x%be=if x<be then x else x-be:=by
  split
  .rename_i c;exact Qq c
  .rename_i c
   rw[Nat.mod_eq_sub_mod oo,Qq oo]
 by_cases q:x<be
 .rw[if_pos q]at z;rw[z];rw[decide_eq_true q]at y;clear z q G;go_enter QR,QP;go_wp2_with fail;refine mo (y.out _ p) λt u=>?_;go_wp2;go_ret;exact⟨rfl,p.keep u,u.mono oo⟩
 .rw[if_neg q]at z;obtain⟨n,F⟩:∃n,x=n+be:=⟨x-be,oo⟩
  rw[show x%be=n by omega];rw[decide_eq_false q]at y;clear z q G;replace F:=Qh F;go_enter QR,QP;go_wp2_with fail;refine mo (y.out _ p) λt u=>?_;replace p:=p.keep u;have j:Jf b w t:=u.mono oo;clear u y E;have E:=p.lt;have g:=p.alloc (Je (Us Nb_ord) 3);have m:Blk (t.alloc (Je (Us Nb_ord) 3)) t.heap.size (Us Nb_ord) 3:=Js t _ _;replace j:=j.alloc oo (Je (Us Nb_ord) 3);clear p;go_wp2_with (go_at_call 201;refine mo (KZ _) λZ K=>?_;rw[K];clear K Z);generalize t.alloc (Je (Us Nb_ord) 3)=w1 at g m j|-;generalize t.heap.size=H at m E|-;have D:H≠b:=oo
  go_loopw [5,6,7] (λc i d wr=> ∃k:Nat,k<=33/\i=Qe Jp k/\c=Qe Jp ((pW n be k:Nat):Int)/\Blk wr b (Us (jB n x k)) 3/\Blk wr H (Us Nb_ord) 3/\Jf b w wr) (λ_ i _ _=>33-(Jg i).toNat)
  case atStart=>exact⟨0,oo,rfl,by rw[Ka];rfl,by rw[AW];exact g,m,j⟩
  case round=>
   clear g m j;obtain⟨k,hk,rfl,rfl,g,m,j⟩:=hrel;by_cases q:k<33
   .have k0:(k:Int)<33:=oo
    have I:=dX g k (by rw[jZ];omega);rw[xZ _ _ _ _ q,if_neg oo]at I;obtain⟨o,f⟩:=Gn n be k;rw[<-F.out]at o;have P:=OT n be k;have S:=rj n k;have T:=rj be k;have W:=rj x k;have r:=AY n x k q;have B:k=32->aV be k=0:=by rintro rfl;exact YC
    have C:k<32->wr.cell? ⟨H,k,none⟩=some (Qe Jp ((aV be k:Nat):Int)):=λh=>by
     have:=dX m k h;rw[Mi k h]at this;exact this
    replace r:=Qh r;replace f:=Qh f;have Q:=jZ n x k;generalize jB n x k=L at g r Q;generalize pW n be k=c at o f P|-;generalize aV x k=v at I o W;generalize aV n k=s at o f S r;generalize aV be k=A at o f T B C;have f1:=g.frozen k;by_cases O:k<32
    .replace C:=C O;clear B;have X:(k:Int)<32:=oo
     by_cases R:(v:Int)-(c:Int)-(A:Int)<0
     .have a:=uP g nR j k s ((v:Int)-(c:Int)-(A:Int)+256) oo;have l:(c+s+A)/256=1:=oo
      rw[l]at f;clear o l;go_wp2;go_roundw
      case rel=>
       refine⟨k+1,oo,gn,?_,?_,a.2.1 _ _ _ D m,a.2.2⟩
       .rw[f.out];rfl
       .rw[<-r.out];exact a.1
      case measure=>simp[Jg];omega
     .have a:=uP g nR j k s ((v:Int)-(c:Int)-(A:Int)) oo;have l:(c+s+A)/256=0:=oo
      rw[l]at f;clear o l;go_wp2;go_roundw
      case rel=>
       refine⟨k+1,oo,gn,?_,?_,a.2.1 _ _ _ D m,a.2.2⟩
       .rw[f.out];rfl
       .rw[<-r.out];exact a.1
      case measure=>simp[Jg];omega
    .have X:¬(k:Int)<32:=oo
     have M:=B oo;subst M;clear C B;by_cases R:(v:Int)-(c:Int)<0
     .have a:=uP g nR j k s ((v:Int)-(c:Int)+256) oo;have l:(c+s+0)/256=1:=oo
      rw[l]at f;clear o l;go_wp2;go_roundw
      case rel=>
       refine⟨k+1,oo,gn,?_,?_,a.2.1 _ _ _ D m,a.2.2⟩
       .rw[f.out];rfl
       .rw[<-r.out];exact a.1
      case measure=>simp[Jg];omega
     .have a:=uP g nR j k s ((v:Int)-(c:Int)) oo;have l:(c+s+0)/256=0:=oo
      rw[l]at f;clear o l;go_wp2;go_roundw
      case rel=>
       refine⟨k+1,oo,gn,?_,?_,a.2.1 _ _ _ D m,a.2.2⟩
       .rw[f.out];rfl
       .rw[<-r.out];exact a.1
      case measure=>simp[Jg];omega
   .obtain rfl:k=33:=oo
    rw[I9]at g;rw[show ((33:Nat):Int)=33 from rfl];go_wp2;go_ret;exact⟨rfl,g,j⟩
def none33:List Nat:=List.replicate 33 0
theorem Fr:cl 0=none33:=dd
theorem abu:none33.set 0 1=cl 1:=dd
theorem NA(w:QU):(Instr.makeSlice 150 (Qe Jp 33) (Qe Jp 33)).run QI w=.ok (Qc (some ⟨w.heap.size,0,none⟩) 33 33) (w.alloc (Je (Us none33) 3)):=kr
theorem BG(x y j r l s:Nat)(w:QU)(C:x<be)(E:y<be)(u:Blk w j (Us (cl x)) 3)(v:Blk w l (Us (cl y)) 3):
  QV QI 199 #[Qc (some ⟨j,0,none⟩) 33 r,Qc (some ⟨l,0,none⟩) 33 s] w λe w'=>e=Jk (Qc (some ⟨w.heap.size,0,none⟩) 33 33)/\Blk w' w.heap.size (Us (cl ((x+y)%be))) 3/\Jf w.heap.size w w':=by
 have B:=NA w;have p:=Qh λI h=>Rp (x+y) w.heap.size 33 I oo h
 generalize cl ((x+y)%be)=M at p|-;have h0:Blk (w.alloc (Je (Us none33) 3)) w.heap.size (Us (cl 0)) 3:=by rw[Fr];exact Js w _ _
 have a:Jf w.heap.size w (w.alloc (Je (Us none33) 3)):=bR.alloc nR _;clear C E;go_enter Tryz.func199,Tryz.ntmps199;go_wp2;clear B;generalize w.alloc (Je (Us none33) 3)=R at h0 a|-;go_loopw [6,7] (λc i wr=> ∃k:Nat,k<=33/\i=Qe Jp k/\c=Qe Jp ((pW x y k:Nat):Int)/\Blk wr w.heap.size (Us (jB (x+y) 0 k)) 3/\Jf w.heap.size w wr) (λ_ i _=>33-(Jg i).toNat)
 case atStart=>exact⟨0,oo,rfl,by rw[Ka];rfl,by rw[AW];exact h0,a⟩
 case round=>
  clear h0 a;obtain⟨k,P,rfl,rfl,h0,a⟩:=hrel;by_cases q:k<33
  .have Q:(k:Int)<33:=oo
   have m:=dX (u.keep a) k (by rw[qw];omega);have o:=dX (v.keep a) k (by rw[qw];omega);rw[zC _ _ q]at m o;obtain⟨d,b⟩:=Gn x y k;have z:=OT x y k;have D:=rj x k;have F:=rj y k;have f:=AY (x+y) 0 k q;replace f:=Qh f;replace b:=Qh b;have A:=jZ (x+y) 0 k;generalize jB (x+y) 0 k=L at h0 f A;generalize pW x y k=c at d b z|-;generalize aV x k=J at m d D b;generalize aV y k=K at o d F b;generalize aV (x+y) k=H at d f;have N:=λn=>(h0.drewN n).frozen k
   have O:=dX h0 k oo;have g:=λn=>uP (h0.drewN n) nR (QY a n) k H (((c:Int)+(J:Int)+(K:Int))%256) oo
   clear d;go_wp2_with (go_quiet (fail));go_roundw
   case rel=>
    refine⟨k+1,oo,gn,?_,?_,(g _).2.2⟩
    .rw[b.out];exact cH oo
    .rw[<-f.out];exact(g _).1
   case measure=>simp[Jg];omega
  .obtain rfl:k=33:=oo
   rw[I9]at h0;rw[show ((33:Nat):Int)=33 from rfl];go_wp2_with fail;refine(p.out _ h0).mono ?_;rintro e S ⟨rfl,t,G⟩;go_wp2;go_ret;exact⟨rfl,t,a.trans G⟩
theorem Lv(Z:Nat):(Z%be+Z%be)%be=(2*Z)%be:=by rw[<-Nat.add_mod,Nat.two_mul]
theorem Sy(Z y:Nat):((2*Z)%be+y)%be=(2*Z+y)%be:=by rw[Nat.mod_add_mod]
theorem NY(N j:Nat):N/2^j=2*(N/2^(j+1))+N/2^j%2:=by
 rw[Qp,<-Qk];omega
theorem SJ(s:Qb)(j:Nat)(a:j<8*s.size):byt s (j/8)/2^(j%8)%2=((aR s.data.toList/2^j%2:Nat):Int):=by
 have b:s.data.toList.length=s.size:=ss
 rw[vL _ _ (by rw[b];exact a)];unfold byt;simp
theorem Hh(s:Qb)(w:QU)(Q:s.size<=100000):
  QV QI 153 #[Qa s] w λe w'=> ∃b:Nat,e=Jk (Qc (some ⟨b,0,none⟩) 33 33)/\w.heap.size<=b/\Blk w' b (Us (cl (aR s.data.toList%be))) 3/\Jf w.heap.size w w':=by
 have m:=pq s.data.toList;rw[show s.data.toList.length=s.size by simp]at m;have o:=SJ s;generalize aR s.data.toList=N at m o|-;replace m:=Qh m;replace o:=Qh o;have r:=Qh ((by decide+kernel:0<be));have f:=NA w;have C:=NA (w.alloc (Je (Us none33) 3));have L:(Us none33).setIfInBounds 0 (Qe Jp 1)=Us (cl 1):=by rw[<-abu];exact N9 none33 0 1
 have h0:Blk ((w.alloc (Je (Us none33) 3)).alloc (Je (Us (cl 1)) 3)) w.heap.size (Us (cl 0)) 3:=by rw[Fr];exact heap_alloc2_old w _ _
 have d:Blk ((w.alloc (Je (Us none33) 3)).alloc (Je (Us (cl 1)) 3)) (w.heap.size+1) (Us (cl 1)) 3:=Q0 w _ _;have c:Jf w.heap.size w ((w.alloc (Je (Us none33) 3)).alloc (Je (Us (cl 1)) 3)):=(bR.alloc nR _).alloc ss _;have q:Blk ((w.alloc (Je (Us none33) 3)).alloc (Je (Us none33) 3)) (w.heap.size+1) (Us none33) 3:=Q0 w _ _;rw[show (w.alloc (Je (Us none33) 3)).heap.size=w.heap.size+1 by simp]at C;have G:=q.frozen 0;have H:=dX q 0 dd;clear q;have T:(0:Int)<=(s.size:Int):=oo
 have W:(s.size:Int)<=100000:=oo
 go_enter Tryz.func153,Tryz.ntmps153;go_wp2;clear f C G H;generalize (w.alloc (Je (Us none33) 3)).alloc (Je (Us (cl 1)) 3)=Z at h0 d c|-;go_loopw [3,5] (λa i wr=> ∃k b:Nat,k<=8*s.size/\i=Qe Jp (8*(s.size:Int)-1-(k:Int))/\a=Qc (some ⟨b,0,none⟩) 33 33/\w.heap.size<=b/\Blk wr b (Us (cl (N/2^(8*s.size-k)%be))) 3/\Blk wr (w.heap.size+1) (Us (cl 1)) 3/\Jf w.heap.size w wr) (λ_ i _=>(Jg i+1).toNat)
 case atStart=>
  refine⟨0,_,oo,by rw[Int.natCast_zero,Int.sub_zero],rfl,QH _,?_,d,c⟩;rw[Qt,Qj m.out,QE];exact h0
 case round=>
  clear h0 d c;obtain⟨k,b,O,rfl,rfl,A,h0,d,c⟩:=hrel;by_cases P:k<8*s.size
  .obtain⟨j,M⟩:∃j,j+k+1=8*s.size:=⟨8*s.size-1-k,oo⟩
   rw[show 8*(s.size:Int)-1-(k:Int)=(j:Int) by omega];rw[show 8*s.size-k=j+1 by omega]at h0;have z:=Qh ((by omega:8*s.size-(k+1)=j));have n:=Qh λJ=>Fx s j J oo oo
   rw[o.out j oo]at n;have f:=NY N j;have y:N/2^j%2=0\/N/2^j%2=1:=oo
   generalize N/2^j%2=K at n f y;generalize N/2^(j+1)=X at h0 f;replace f:=Qh f;have h:=BG (X%be) (X%be) b 33 b 33 wr (Qi _ r.out) (Qi _ r.out) h0 h0;rw[Lv]at h;replace h:=Qh h;have R:(0:Int)<=(j:Int):=oo
   have S:(j:Int)<=800000:=oo
   have g:=c.size;go_wp2_with fail;refine h.out.mono ?_;rintro e E ⟨rfl,p,t⟩;have B:=g;replace d:=d.keep t;replace c:=c.trans (t.mono g);clear h t A g h0;generalize wr.heap.size=v at p B|-;go_wp2_with fail;refine mo (n.out _) λI D=>?_;rw[D];clear D I n;rcases y with rfl|rfl
   .rw[show ((0:Nat):Int)=0 from rfl];go_wp2;go_roundw
    case rel=>
     refine⟨k+1,v,oo,gn,rfl,B,?_,d,c⟩;rw[z.out,f.out,QG];exact p
    case measure=>simp[Jg]
   .rw[show ((1:Nat):Int)=1 from rfl];have l:=BG (2*(X)%be) 1 v 33 (w.heap.size+1) 33 E (Qi _ r.out) dk p d;rw[Sy]at l;replace l:=Qh l;have g:=c.size;go_wp2_with fail;refine l.out.mono ?_;rintro e w5 ⟨rfl,x,u⟩;replace d:=d.keep u;replace c:=c.trans (u.mono g);clear l u p;generalize E.heap.size=F at x g|-;go_wp2;go_roundw
    case rel=>
     refine⟨k+1,F,oo,gn,rfl,g,?_,d,c⟩;rw[z.out,f.out];exact x
    case measure=>simp[Jg]
  .obtain rfl:k=8*s.size:=oo
   rw[QF,Qo,Qn]at h0;rw[show 8*(s.size:Int)-1-((8*s.size:Nat):Int)= -1 by omega];go_wp2;go_ret;exact⟨b,rfl,A,h0,c⟩
theorem Wk(s:Qb)(y p z:Nat)(w:QU)(Q:s.size<=100000)(t:y<be)(B:Blk w p (Us (cl y)) 3):
  QV QI 200 #[Qa s,Qc (some ⟨p,0,none⟩) 33 z] w λe w'=> ∃b:Nat,e=Jk (Qc (some ⟨b,0,none⟩) 33 33)/\w.heap.size<=b/\Blk w' b (Us (cl (aR s.data.toList*y%be))) 3/\Jf w.heap.size w w':=by
 have m:=pq s.data.toList;rw[show s.data.toList.length=s.size by simp]at m;have o:=SJ s;generalize aR s.data.toList=N at m o|-;replace m:=Qh m;replace o:=Qh o;have r:=Qh ((by decide+kernel:0<be));have f:=NA w;have h0:Blk (w.alloc (Je (Us none33) 3)) w.heap.size (Us (cl 0)) 3:=by rw[Fr];exact Js w _ _
 have c:Jf w.heap.size w (w.alloc (Je (Us none33) 3)):=bR.alloc nR _;have d:=B.keep c;clear B;have T:(0:Int)<=(s.size:Int):=oo
 have W:(s.size:Int)<=100000:=oo
 replace t:=Qh t;go_enter Tryz.func200,Tryz.ntmps200;go_wp2;clear f;generalize w.alloc (Je (Us none33) 3)=Z at h0 d c|-;go_loopw [5,6] (λa i wr=> ∃k b:Nat,k<=8*s.size/\i=Qe Jp (8*(s.size:Int)-1-(k:Int))/\a=Qc (some ⟨b,0,none⟩) 33 33/\w.heap.size<=b/\Blk wr b (Us (cl (N/2^(8*s.size-k)*y%be))) 3/\Blk wr p (Us (cl y)) 3/\Jf w.heap.size w wr) (λ_ i _=>(Jg i+1).toNat)
 case atStart=>
  refine⟨0,_,oo,by rw[Int.natCast_zero,Int.sub_zero],rfl,QH _,?_,d,c⟩;rw[Qt,Qj m.out,Nat.zero_mul,QE];exact h0
 case round=>
  clear h0 d c;obtain⟨k,b,O,rfl,rfl,E,h0,d,c⟩:=hrel;by_cases P:k<8*s.size
  .obtain⟨j,M⟩:∃j,j+k+1=8*s.size:=⟨8*s.size-1-k,oo⟩
   rw[show 8*(s.size:Int)-1-(k:Int)=(j:Int) by omega];rw[show 8*s.size-k=j+1 by omega]at h0;have D:=Qh ((by omega:8*s.size-(k+1)=j));have n:=Qh λK=>Fx s j K oo oo
   rw[o.out j oo]at n;have f:=NY N j;have C:N/2^j%2=0\/N/2^j%2=1:=oo
   generalize N/2^j%2=L at n f C;generalize N/2^(j+1)=X at h0 f;replace f:=Qh f;have h:=BG (X*y%be) (X*y%be) b 33 b 33 wr (Qi _ r.out) (Qi _ r.out) h0 h0;rw[Lv]at h;replace h:=Qh h;have R:(0:Int)<=(j:Int):=oo
   have S:(j:Int)<=800000:=oo
   have g:=c.size;go_wp2_with fail;refine h.out.mono ?_;rintro e H ⟨rfl,q,u⟩;have F:=g;replace d:=d.keep u;replace c:=c.trans (u.mono g);clear h u E g h0;generalize wr.heap.size=x at q F|-;go_wp2_with fail;refine mo (n.out _) λJ G=>?_;rw[G];clear G J n;rcases C with rfl|rfl
   .rw[show ((0:Nat):Int)=0 from rfl];go_wp2;go_roundw
    case rel=>
     refine⟨k+1,x,oo,gn,rfl,F,?_,d,c⟩;rw[D.out,f.out,QG,QD];exact q
    case measure=>simp[Jg]
   .rw[show ((1:Nat):Int)=1 from rfl];have l:=BG (2*(X*y)%be) y x 33 p z H (Qi _ r.out) t.out q d;rw[Sy]at l;replace l:=Qh l;have g:=c.size;go_wp2_with fail;refine l.out.mono ?_;rintro e w5 ⟨rfl,A,v⟩;replace d:=d.keep v;replace c:=c.trans (v.mono g);clear l v q;generalize H.heap.size=I at A g|-;go_wp2;go_roundw
    case rel=>
     refine⟨k+1,I,oo,gn,rfl,g,?_,d,c⟩;rw[D.out,f.out,Nat.add_mul,Nat.one_mul,QD];exact A
    case measure=>simp[Jg]
  .obtain rfl:k=8*s.size:=oo
   rw[QF,Qo,Qn]at h0;rw[show 8*(s.size:Int)-1-((8*s.size:Nat):Int)= -1 by omega];go_wp2;go_ret;exact⟨b,rfl,E,h0,c⟩
theorem OE(x b f:Nat)(w:QU)(g:Blk w b (Us (cl x)) 3):
  Rw 154 #[Qc (some ⟨b,0,none⟩) 33 f] w (Qa ⟨(dj x 32).toArray⟩):=by
 go_enter Tryz.func154,Tryz.ntmps154;go_wp2;go_loopw [3,4] (λs i wr=> ∃k:Nat,k<=32/\i=Qe Jp k/\s=Qa ⟨(dj x k).toArray⟩/\Jf w.heap.size w wr) (λ_ i _=>32-(Jg i).toNat)
 case atStart=>exact⟨0,oo,rfl,rfl,Jr _ _⟩
 case round=>
  obtain⟨k,p,rfl,rfl,a⟩:=hrel;by_cases q:k<32
  .have r:(k:Int)<32:=oo
   have t:(k:Int)<33:=oo
   have e:=dX (g.keep a) k (by rw[qw];omega);rw[zC _ _ oo]at e;have l:=rj x k;have h:=cJ x k;have d:Hid (dj x (k+1)=dj x k++dj (aV x k) 1):=by
    show dj x k++ [UInt8.ofNat (x/256^k%256)]=dj x k++ [UInt8.ofNat (x/256^k%256/256^0%256)]
    rw[Qo,Qn,Nat.mod_mod]
   have c:Hid (Rv 75 #[Qe Jp ((aV x k:Nat):Int),Qe Jp 1] (Qa ⟨(dj (aV x k) 1).toArray⟩)):=λn=>mN _ _ (aV x k) 1 rfl rfl oo oo n
   have j:=cJ (aV x k) 1;generalize dj (aV x k) 1=B at d c j;generalize aV x k=v at e l c;generalize dj x k=L at h d|-;have o:Jo .add ⟨L.toArray⟩ ⟨B.toArray⟩=pure (Qa ⟨(L++B).toArray⟩):=by
    rw[bB _ _ (by show L.toArray.size+B.toArray.size<=_;rw[Q7,Q7];omega)];congr 2
   go_wp2_with (go_at_call 75;refine gv c λu m=>?_);go_roundw
   case rel=>
    refine⟨k+1,oo,gn,by rw[d.out],a.trans (m.mono a.size)⟩
   case measure=>simp[Jg];omega
  .obtain rfl:k=32:=oo
   rw[show ((32:Nat):Int)=32 from rfl];go_wp2;go_ret;exact⟨rfl,a⟩
def o9(s:ByteArray):ByteArray:=fQ ai s
def mF(s:ByteArray):ByteArray:=(o9 s).extract 32 64
def ll(s:ByteArray):Nat:=aR s.data.toList
def fS(n:Nat):ByteArray:=⟨(dj n 32).toArray⟩
theorem oB(n:Nat):(fS n).size=32:=by
 show(dj n 32).toArray.size=32
 rw[Q7,cJ]
def jH(s d:ByteArray):Nat:=ll (o9 (mF s++d))%be
def eI(s d:ByteArray):ByteArray:=⟨(oQ (bU (fS (jH s d)) da)).toArray⟩
theorem ym(s d:Qb):(eI s d).size=32:=by
 show(oQ (bU (fS (jH s d)) da)).toArray.size=32
 rw[Q7,Aj]
def ji(f i d:ByteArray):Nat:=ll (o9 (f++i++d))%be
def BC(s d:ByteArray):Nat:=ll (im s)*ji (eI s d) (dL s) d%be
def oK(s d:ByteArray):Nat:=(jH s d+BC s d)%be
def rR(s d:ByteArray):ByteArray:=eI s d++fS (oK s d)
def eH(s d:ByteArray):ByteArray×Int:=if s.size=32/\d.size<=12000 then(rR s d,0)else (⟨#[]⟩,1)
theorem wU:0<be:=dk
theorem Wi(s d:Qb)(hs:s.size=32)(hd:d.size<=100000)(w:QU):
  Rw 151 #[Qa s,Qa d] w (Qa (rR s d)):=by
 have ao:=sq;have H1:Hid (Rv 36 #[Qa s] (Qa (o9 s))):=λa=>kE s a oo
 have Z:Hid ((o9 s).extract 0 32=pf s):=rfl;have ab:Hid ((o9 s).extract 32 64=mF s):=rfl;have X:(o9 s).size=64:=fR ai s;have t:(mF s).size=32:=by
  unfold mF;rw[Ji,X];rfl
 have D:Hid (Rv 38 #[Qa (pf s)] (Qa (im s))):=λa=>Ew _ a (zv s)
 have e1:iP s=(dL s,0):=by unfold iP;rw[if_pos hs]
 have H3:=Qr λa=>by
  have:=uo s a;rw[e1]at this;exact this
 clear e1;have an:(mF s++d).size=32+d.size:=by rw[Jh,t]
 have v:Hid (Jo .add (mF s) d=pure (Qa (mF s++d))):=bB _ _ (by rw[t];omega);have E:Hid (Rv 36 #[Qa (mF s++d)] (Qa (o9 (mF s++d)))):=λa=>kE _ a oo
 have G:Hid (∀a:QU,QV QI 153 #[Qa (o9 (mF s++d))] a λe w'=> ∃b:Nat,e=Jk (Qc (some ⟨b,0,none⟩) 33 33)/\a.heap.size<=b/\Blk w' b (Us (cl (jH s d))) 3/\Jf a.heap.size a w'):=λa=>Hh _ a (by rw[show (o9 (mF s++d)).size=64 from fR ai _];omega)
 have H:Hid (∀(a:QU) (b:Nat),Blk a b (Us (cl (jH s d))) 3->Rw 154 #[Qc (some ⟨b,0,none⟩) 33 33] a (Qa (fS (jH s d)))):=λa b h=>OE _ b 33 a h
 have H7:=Qr (OD)
 have o:Hid (Rv 37 #[Qa (fS (jH s d)),Qd (Ns (bc da))] (Qd (Ns (bc (bU (fS (jH s d)) da))))):=λa=>yM _ _ (oB _) Rp_base_fine a
 have S:=rf (fS (jH s d)) da Rp_base_fine;have J:Hid (Rv 40 #[Qd (Ns (bc (bU (fS (jH s d)) da)))] (Qa (eI s d))):=λa=>zy _ S a
 have u:(Ns (bc (bU (fS (jH s d)) da))).size=64:=by rw[jn,S.row]
 clear S;have r:=ym s d;have W:=Dt s;have j:Hid (Jo .add (eI s d) (dL s)=pure (Qa (eI s d++dL s))):=bB _ _ (by rw[r,W];omega);have T:(eI s d++dL s).size=64:=by rw[Jh,r,W]
 have x:Hid (Jo .add (eI s d++dL s) d=pure (Qa (eI s d++dL s++d))):=bB _ _ (by rw[T];omega);have ah:(eI s d++dL s++d).size=64+d.size:=by rw[Jh,T]
 have y:Hid (Rv 36 #[Qa (eI s d++dL s++d)] (Qa (o9 (eI s d++dL s++d)))):=λa=>kE _ a oo
 have z:Hid (∀a:QU,QV QI 153 #[Qa (o9 (eI s d++dL s++d))] a λe w'=> ∃b:Nat,e=Jk (Qc (some ⟨b,0,none⟩) 33 33)/\a.heap.size<=b/\Blk w' b (Us (cl (ji (eI s d) (dL s) d))) 3/\Jf a.heap.size a w'):=λa=>Hh _ a (by rw[show (o9 (eI s d++dL s++d)).size=64 from fR ai _];omega)
 have m:Hid (∀(a:QU) (b:Nat),Blk a b (Us (cl (ji (eI s d) (dL s) d))) 3->QV QI 200 #[Qa (im s),Qc (some ⟨b,0,none⟩) 33 33] a λe w'=> ∃b':Nat,e=Jk (Qc (some ⟨b',0,none⟩) 33 33)/\a.heap.size<=b'/\Blk w' b' (Us (cl (BC s d))) 3/\Jf a.heap.size a w'):=λa b h=>Wk _ _ b 33 a (by rw[wV];omega) (Qi _ wU) h
 have n:Hid (∀(a:QU) (b b':Nat),Blk a b (Us (cl (jH s d))) 3->Blk a b' (Us (cl (BC s d))) 3->QV QI 199 #[Qc (some ⟨b,0,none⟩) 33 33,Qc (some ⟨b',0,none⟩) 33 33] a λe w'=>e=Jk (Qc (some ⟨a.heap.size,0,none⟩) 33 33)/\Blk w' a.heap.size (Us (cl (oK s d))) 3/\Jf a.heap.size a w'):=λa b b' h h'=>BG _ _ b 33 b' 33 a (Qi _ wU) (Qi _ wU) h h'
 have A:Hid (∀(a:QU) (b:Nat),Blk a b (Us (cl (oK s d))) 3->Rw 154 #[Qc (some ⟨b,0,none⟩) 33 33] a (Qa (fS (oK s d)))):=λa b h=>OE _ b 33 a h
 have l:Hid (Jo .add (eI s d) (fS (oK s d))=pure (Qa (rR s d))):=bB _ _ (by rw[r,oB];omega);clear T ah an r W;generalize rR s d=SG at l|-;generalize fS (oK s d)=BL at l A;generalize cl (oK s d)=NL at n A;generalize cl (BC s d)=NP at m n;generalize cl (ji (eI s d) (dL s) d)=NT at z m;generalize o9 (eI s d++dL s++d)=DT at y z;generalize eI s d++dL s++d=a2 at x y;generalize eI s d++dL s=FI at j x;generalize eI s d=F at j l J;generalize dL s=I at j H3;generalize bc (bU (fS (jH s d)) da)=R at o J u;generalize bc da=B at H7 o;generalize fS (jH s d)=BO at H o;generalize cl (jH s d)=NO at G H n;generalize o9 (mF s++d)=DO at E G;generalize mF s++d=RD at v E;generalize mF s=L2 at ab v t;generalize im s=C at D m;generalize pf s=L at Z D;generalize o9 s=DD at H1 Z ab X;clear hs hd t;have sZ:=rg;generalize Rp_Z64=p at ao sZ;have ap:=Nz sZ;go_enter Tryz.func151,Tryz.ntmps151;go_wp2_with fail;refine gv H1 λw1 c=>?_
 have P:=Z.out;go_wp2_with fail;refine gv D λw2 k=>?_
 replace c:=c.trans (k.mono c.size);clear P k w1;go_wp2_with fail;refine gv H3 λw3 k=>?_
 replace c:=c.trans (k.mono c.size);clear k w2;have P:=ab.out;have q:=v.out;go_wp2_with fail;refine gv E λw4 k=>?_
 replace c:=c.trans (k.mono c.size);clear k w3 P q X;go_wp2_with fail;refine(G.out _).mono ?_;rintro e w5 ⟨b1,rfl,i,f,k⟩;replace c:=c.trans (k.mono c.size);clear k i w4;go_wp2_with fail;refine mo (H.out _ _ f) λw6 k=>?_;replace c:=c.trans (k.mono c.size);replace f:=f.keep k;clear k w5;go_wp2_with fail;refine gv H7 λw7 k=>?_
 replace c:=c.trans (k.mono c.size);replace f:=f.keep k;clear k w6;go_wp2_with fail;refine gv o λg k=>?_
 replace c:=c.trans (k.mono c.size);replace f:=f.keep k;clear k w7;have Q:=Js g (Ns p) 61;have N:=Q;unfold Blk at N;have h2:=Q.row (Ns R);have M:=h2;unfold Blk at M;have ad:=Nat.ne_of_lt f.lt;replace f:=(f.alloc (Je (Ns p) 61)).other ad (Ns R);have K:Jf w.heap.size w ((g.alloc (Je (Ns p) 61)).setRow g.heap.size (Ns R)):=below_setRow (c.alloc c.size _) c.size _;go_wp2_with (first
  |(refine QW rfl 61 _ _ rfl g.heap.size _ rfl rfl 61 _ N (by rw[u];exact Tryz.infoP64) (by rw[u,ap]) (aK _) ?_)
  |(refine ld t61 rfl rfl g.heap.size rfl M u ?_))
 clear N M h2 Q c ad;generalize (g.alloc (Je (Ns p) 61)).setRow g.heap.size (Ns R)=w9 at K f|-;have c:=K;clear K;refine gv J λax k=>?_
 replace c:=c.trans (k.mono c.size);replace f:=f.keep k;clear k w9;have q:=j.out;have ag:=x.out;go_wp2_with fail;refine gv y λay k=>?_
 replace c:=c.trans (k.mono c.size);replace f:=f.keep k;clear k ax q ag;go_wp2_with fail;refine(z.out _).mono ?_;rintro e az ⟨b2,rfl,i,h2,k⟩;replace c:=c.trans (k.mono c.size);replace f:=f.keep k;clear k i ay;go_wp2_with fail;refine(m.out _ _ h2).mono ?_;rintro e a0 ⟨b3,rfl,i,h3,k⟩;replace c:=c.trans (k.mono c.size);replace f:=f.keep k;clear k i h2 az;go_wp2_with fail;refine(n.out _ _ _ f h3).mono ?_;rintro e a1 ⟨rfl,O,k⟩;replace c:=c.trans (k.mono c.size);clear k f h3;generalize a0.heap.size=b4 at O|-;go_wp2_with fail;refine mo (A.out _ _ O) λa3 k=>?_;replace c:=c.trans (k.mono c.size);clear k O a1;have q:=l.out;go_wp2;go_ret;exact⟨rfl,c⟩
theorem Mb(s d:Qb)(k:d.size<=140737488351232)(w:QU):
  Rw 100 #[Qa s,Qa d] w (Qg #[Qa (eH s d).1,Qe Jp (eH s d).2]):=by
 by_cases h:s.size=32/\d.size<=12000
 .have a:eH s d=(rR s d,0):=by unfold eH;rw[if_pos h]
  rw[a];clear a;have b:=Qr (Wi s d h.1 oo)
  generalize rR s d=i at b|-;have c:((s.size:Int) !=32)=false:=by simp;omega
  have e:(s.size:Int)=32:=oo
  have f:¬(12000:Int)<(d.size:Int):=oo
  go_enter QN,QM;go_wp2_with fail;refine gv b λl g=>?_
  go_wp2;go_ret2;exact⟨rfl,g⟩
 .have a:eH s d=(⟨#[]⟩,1):=by unfold eH;rw[if_neg h]
  rw[a];clear a;by_cases j:s.size=32
  .have c:((s.size:Int) !=32)=false:=by simp;omega
   have e:(s.size:Int)=32:=oo
   have f:(12000:Int)<(d.size:Int):=oo
   go_enter QN,QM;go_wp2;go_ret2;exact⟨rfl,Jr _ _⟩
  .have c:((s.size:Int) !=32)=true:=by simp;omega
   have e:¬(s.size:Int)=32:=oo
   go_enter QN,QM;go_wp2;go_ret2;exact⟨rfl,Jr _ _⟩
def DZ(cs:Array QZ)(k:Nat):List QZ->Array QZ
 | []=>cs
 |v::r=>DZ (cs.setIfInBounds k v) (k+1) r
theorem setRow_self{w:QU}{g t:Nat}{a:Array QZ}(b:Blk w g a t):w.setRow g a=w:=by
 have i:=(Jn.1 b).1;have c:=(Jn.1 b).2;unfold World.setRow;cases w with
 |mk h l e os j=>
  congr 1
  apply Array.ext
  .simp
  .intro k f h2;simp only[Array.getElem_modify];split
   .rename_i d;subst d;simp at c;simp[c]
   .rfl
theorem DU{P:Program}(g t off:Nat):∀(c:List QZ) (i:Nat) (a:Array QZ) (w:QU),Blk w g a t->off+i+c.length<=a.size->(∀v∈c,v.oneCell'=true)->
  (Q5 ⟨g,off,none⟩ c i).run P w=.ok () (w.setRow g (DZ a (off+i) c))
 | [],i,a,w,b,_,_=>by
  rw[DZ,setRow_self b];rfl
 |v::rest,i,a,w,b,k,d=>by
  rw[List.length_cons]at k;have j:off+i<a.size:=oo
  have f:(⟨g,off,none⟩:Addr).add i=⟨g,off+i,none⟩:=by unfold Addr.add;split<;>simp_all
  have e:w.cell? ⟨g,off+i,none⟩=some a[off+i]:=by rw[b.cell];exact Array.getElem?_eq_getElem j
  have h:=b.frozen (off+i);have l:(store ((⟨g,off,none⟩:Addr).add i) v).run P w=.ok () (w.setRow g (a.setIfInBounds (off+i) v)):=by
   rw[f,run_store P w _ v _ (d v ss),e];simp[h,setCell_eq_setRow w g (off+i) a t (0,0) v b]
  have n:=DU g t off rest (i+1) (a.setIfInBounds (off+i) v) (w.setRow g (a.setIfInBounds (off+i) v)) (b.row _) (by rw[Array.size_setIfInBounds];omega) (λx m=>d x (by simp[m])) (P:=P);simp only[Q5,Sem.run_bind,l,Result.andThen_ok,n,setRow_setRow];rw[DZ,Nat.add_assoc]
theorem DX(c:List QZ):∀(b b':List QZ),b.length=b'.length-> ∀a:List QZ,DZ (a++b++c).toArray a.length b'=(a++b'++c).toArray
 | [],[],_,a=>rfl
 |x::b,y::b',h,a=>by
  rw[DZ,List.setIfInBounds_toArray];have e:(a++x::b++c).set a.length y=(a++ [y])++b++c:=ss
  rw[e,show a.length+1=(a++ [y]).length by simp,DX c b b' (by simpa using h) (a++ [y])];simp
theorem I7(a b:List Int):(Ns (a++b)).toList=(Ns a).toList++(Ns b).toList:=by simp[Ns]
theorem zB(a:List Int):(Ns a).toList.length=a.length:=by simp[Ns]
theorem abl(X a Y Z T:List Int)(h:X.length=a.length):DZ (Ns (bm X Y Z T)) (0+0) (Ns a).toList=Ns (bm a Y Z T):=by
 have:=DX (Ns (Y++Z++T)).toList (Ns X).toList (Ns a).toList (by rw[zB,zB,h]) [];rw[Q8,Q8,<-I7,<-I7,Jl,Jl]at this;unfold bm;rw[Q6,Q6,Q6,Q6,<-Q6 Y];exact this
theorem abm(X Y Z T a:List Int)(b:X.length=16)(c:Y.length=16)(d:Z.length=16)(h:T.length=a.length):DZ (Ns (bm X Y Z T)) (48+0) (Ns a).toList=Ns (bm X Y Z a):=by
 have:=DX [] (Ns T).toList (Ns a).toList (by rw[zB,zB,h]) (Ns (X++Y++Z)).toList;rw[Jc,Jc,<-I7,<-I7,Jl,Jl,zB,Ja,Ja,b,c,d]at this;exact this
theorem acv{a b:Qb}(h:¬a=b):(a.toList==b.toList)=false:=by
 rw[beq_eq_false_iff_ne];intro e;rw[ByteArray.toList_eq,ByteArray.toList_eq]at e;exact h (Im e)
theorem Nv:∀(l:List UInt8) (i:Nat),i<l.length->aV (aR l) i=(l.getD i 0).toNat
 | [],i,h=>by simp at h
 |x::l,0,_=>by
  have:=x.toNat_lt;unfold aV;rw[aR];show _=x.toNat
  simp
 |x::l,i+1,h=>by
  have:=x.toNat_lt;have a:=Nv l i (by simpa using h);unfold aV at a|-;rw[aR,Qp,Nat.mul_comm (256^i) 256,<-Qk,show (x.toNat+256*aR l)/256=aR l by omega];exact a
theorem Xw(s:Qb)(h:s.size=32):aR s.data.toList<256^32:=by
 have:=pq s.data.toList;rw[show s.data.toList.length=32 by rw[<-h];simp]at this;rw[show (256:Nat)^32=2^(8*32) by decide];exact this
theorem abv(N:Nat)(h:N<256^32):jB N 0 32=cl N:=by
 refine Gm (by rw[jZ,qw]) ?_;intro i a;rw[jZ]at a;rw[xZ _ _ _ _ a,zC _ _ a];by_cases c:i<32
 .rw[if_pos c]
 .rw[if_neg c,show i=32 by omega];unfold aV;rw[Qj h,Nat.zero_div]
theorem abG(s:Qb)(k:Nat)(a:k<32):(s.extract 32 64).data.toList.getD k 0=s.data.toList.getD (32+k) 0:=by
 have e:(s.extract 32 64).data.toList=(s.data.toList.drop 32).take 32:=by
  rw[Jj,Array.toList_extract,List.extract_eq_take_drop]
 rw[e];simp only[Q9];rw[List.getElem?_take_of_lt a,List.getElem?_drop]
theorem Wn(i d g C G2 S1 S2 DG KS Q:Qb)(N:Nat)(NK:List Nat)(G H:Bool)(X Y Z T O0 j t D TW B M1 M2 R:List Int)(w:QU)
  (hi:i.size=32) (hd:d.size<=12000) (hg:g.size=64) (F:N<256^32) (ap:∀k,k<32->aV N k=(g.data.toList.getD (32+k) 0).toNat)
  (l:X.length=16) (J:Y.length=16) (M:Z.length=16) (hT:T.length=16) (z:j.length=16) (W:t.length=16) (hD:D.length=16) (bh:R.length=64)
  (x1:g.extract 0 32=C) (x2:g.extract 32 64=G2) (A1:Hid (Jo .add C i=pure (Qa S1))) (A2:Hid (Jo .add S1 d=pure (Qa S2)))
  (HB:Hid (∀n:QU,Blk n w.heap.size (Us (cl N)) 3->Rw 152 #[Qc (some ⟨w.heap.size,0,none⟩) 33 33] n (Qf G)))
  (HM:Hid (∀n:QU,QV QI 153 #[Qa DG] n λe w'=> ∃b:Nat,e=Jk (Qc (some ⟨b,0,none⟩) 33 33)/\n.heap.size<=b/\Blk w' b (Us NK) 3/\Jf n.heap.size n w'))
  (H8:Hid (∀(n:QU) (b:Nat),Blk n b (Us NK) 3->Rw 154 #[Qc (some ⟨b,0,none⟩) 33 33] n (Qa KS)))
  (H1:Hid (Rv 86 #[Qa i] (Qg #[Qd (Ns (bm X Y Z T)),Qf H])))
  (H2:Hid (Rv 81 #[Qe Jp 0] (Qd (Ns O0))))
  (H3:Hid (Rv 140 #[Qd (Ns O0),Qd (Ns X)] (Qd (Ns j))))
  (H4:Hid (Rv 140 #[Qd (Ns O0),Qd (Ns T)] (Qd (Ns t))))
  (H5:Hid (Rv 36 #[Qa S2] (Qa DG)))
  (H6:Hid (Rv 79 #[] (Qd (Ns D))))
  (H7:Hid (Rv 39 #[] (Qd (Ns B))))
  (H9:Hid (Rv 37 #[Qa G2,Qd (Ns B)] (Qd (Ns M1))))
  (J1:Hid (Rv 37 #[Qa KS,Qd (Ns (bm j Y Z t))] (Qd (Ns M2))))
  (J2:Hid (Rv 80 #[Qd (Ns D),Qd (Ns D)] (Qd (Ns TW))))
  (J3:Hid (Rv 82 #[Qd (Ns M1),Qd (Ns M2),Qd (Ns TW)] (Qd (Ns R))))
  (J4:Hid (Rv 40 #[Qd (Ns R)] (Qa Q))):
  Rw 102 #[Qa i,Qa d,Qa g] w (Qf (G&&H&&decide (Q=C))):=by
 have hz:=oe;have bX:=sq;have hm:=NA w;have d1:((i.size:Int) !=32)=false:=by simp;omega
 have d2:(i.size:Int)=32:=oo
 have d3:¬(12000:Int)<(d.size:Int):=oo
 have d4:((g.size:Int) !=64)=false:=by simp;omega
 have d5:(g.size:Int)=64:=oo
 have h0:Blk (w.alloc (Je (Us none33) 3)) w.heap.size (Us (cl 0)) 3:=by rw[Fr];exact Js w _ _
 have o:Jf w.heap.size w (w.alloc (Je (Us none33) 3)):=bR.alloc nR _;replace ap:=Qh ap;have ax:=abv N F;replace ax:=Qh ax;clear F;generalize u:(G&&H&&decide (Q=C))=a9;replace u:=Qh u;have sX:=Nz l;have sT:=Nz hT;have sD:=Nz hD;have b6:=Nz z;have b5:=Nz W;have a7:=Nz bh;have A:(Ns (bm X Y Z T)).size=64:=by rw[jn,jO l J M hT]
 have b0:(Ns (bm j Y Z t)).size=64:=by rw[jn,jO z J M W]
 have sZ:=rg;generalize Rp_Z64=S at bX sZ;have ab:=Nz sZ;go_enter QL,QJ;go_wp2;clear hm;generalize w.alloc (Je (Us none33) 3)=w1 at h0 o|-;go_loopw [8] (λq wr=> ∃k:Nat,k<=32/\q=Qe Jp k/\Blk wr w.heap.size (Us (jB N 0 k)) 3/\Jf w.heap.size w wr) (λq _=>32-(Jg q).toNat)
 case atStart=>exact⟨0,oo,rfl,by rw[AW];exact h0,o⟩
 case round=>
  clear h0 o;obtain⟨k,hk,rfl,h0,o⟩:=hrel;by_cases bs:k<32
  .have p:(k:Int)<32:=oo
   have k1:(k:Int)<33:=oo
   have a3:=mM g ((32:Int)+(k:Int)) (32+k) oo oo oo;have a2:byt g (32+k)=((aV N k:Nat):Int):=by rw[ap.out k bs];rfl
   rw[a2]at a3;clear a2;have bt:=rj N k;have ao:=Qh (AY N 0 k oo);have bq:=jZ N 0 k;generalize jB N 0 k=L at h0 ao bq;generalize aV N k=y at a3 bt ao;have f1:=h0.frozen k;have g3:=dX h0 k oo;have R1:=uP h0 nR o k y (y:Int) rfl;have wy:Jp.wrap (y:Int)=(y:Int):=by rw[Jq];omega
   go_wp2;go_roundw
   case rel=>
    refine⟨k+1,oo,gn,?_,R1.2.2⟩;rw[<-ao.out];exact R1.1
   case measure=>simp[Jg];omega
  .obtain rfl:k=32:=oo
   rw[ax.out]at h0;rw[show ((32:Nat):Int)=32 from rfl];go_wp2_with fail;refine mo (HB.out _ h0) λw2 k2=>?_;replace o:=o.trans (k2.mono o.size);clear k2 h0 HB wr;go_wp2_with fail;refine gv H1 λs k3=>?_
   replace o:=o.trans (k3.mono o.size);clear k3 H1 w2;have a:=WD.start (w:=s);have F:=a.new (Ns S) 61;have E:=F.get 0 rfl;dsimp only at E;unfold Blk at E;replace a:WD s (s.heap.size) [(s.heap.size,Ns (bm X Y Z T),61)] ((s.alloc (Je (Ns S) 61)).setRow s.heap.size (Ns (bm X Y Z T))):=F.over 0 rfl (Ns (bm X Y Z T));by_cases a5:G=true/\H=true
   .obtain⟨rfl,rfl⟩:=a5;rw[Bool.and_self,Bool.true_and]at u;go_wp2_with (refine QW rfl 61 _ _ rfl s.heap.size _ rfl rfl 61 _ E (by rw[A];exact Tryz.infoP64) (by rw[A,ab]) (aK _) ?_);clear F E;generalize (s.alloc (Je (Ns S) 61)).setRow s.heap.size (Ns (bm X Y Z T))=v1 at a|-;generalize ay:s.heap.size=r at a|-;replace ay:=Qh ay;refine rgS [5] a.drew (λad c=>?_);clear a;refine ae 1 55 c ?_;refine ac 2 56 (v:=Qd (Ns X)) c ?_ ?_
    .exact λn ag=>jY 59 _ rfl (r) 0 rfl (Ns X) _ (BE (ag.get 0 rfl)) QO rfl (by rw[sX];exact Tryz.info16)
    try simp only[qQ]
    refine aF 0 λK f=>?_
    go_simp;go_wp2_with (go_at_call 81;refine gv H2 λb1 p=>?_);have l:=c.keep p;refine f.out _ _ l ?_;try simp only[qQ]
    clear f K p c;refine aF 3 λK f=>?_
    go_simp;go_wp2_with (go_at_call 140;refine gv H3 λah p=>?_);have m:=l.keep p;refine f.out _ _ m ?_;try simp only[qQ]
    clear f K p l;refine ae 4 58 m ?_;try simp only[qQ]
    refine eF 5 λK f=>?_
    have O:=DU (P:=QI) r 61 0 (Ns j).toList 0 _ ah (m.get 0 rfl) (by rw[zB];rw[A,z];omega) (λv hv=>(Jm.1 (aK j)) v (by simpa using hv));rw[abl X j Y Z T (by rw[l,z])]at O;go_simp;refine f.out _ _ ?_;clear f K O;replace m:WD s (r) [(r,Ns (bm j Y Z T),61)] (ah.setRow r (Ns (bm j Y Z T))):=m.over 0 rfl (Ns (bm j Y Z T));generalize ah.setRow r (Ns (bm j Y Z T))=az at m|-;refine aC ?_;have a:=m;clear m;go_wp2_with fail;have bY:(Ns (bm j Y Z T)).size=64:=by rw[jn,jO z J M hT]
    refine rgS [5] a.drew (λbd c=>?_);clear a;refine ae 1 60 c ?_;refine ac 2 61 (v:=Qd (Ns T)) c ?_ ?_
    .exact λn ag=>jY 59 _ rfl (r) 48 rfl (Ns T) _ (Ox (ag.get 0 rfl) z J M) QO rfl (by rw[sT];exact Tryz.info16)
    try simp only[qQ]
    refine aF 0 λK f=>?_
    go_simp;go_wp2_with (go_at_call 81;refine gv H2 λb2 p=>?_);have l:=c.keep p;refine f.out _ _ l ?_;try simp only[qQ]
    clear f K p c;refine aF 3 λK f=>?_
    go_simp;go_wp2_with (go_at_call 140;refine gv H4 λan p=>?_);have m:=l.keep p;refine f.out _ _ m ?_;try simp only[qQ]
    clear f K p l;refine ae 4 63 m ?_;try simp only[qQ]
    refine eF 5 λK f=>?_
    have O:=DU (P:=QI) r 61 48 (Ns t).toList 0 _ an (m.get 0 rfl) (by rw[zB];rw[bY,W];omega) (λv hv=>(Jm.1 (aK t)) v (by simpa using hv));rw[abm j Y Z T t z J M (by rw[hT,W])]at O;go_simp;refine f.out _ _ ?_;clear f K O;replace m:WD s (r) [(r,Ns (bm j Y Z t),61)] (an.setRow r (Ns (bm j Y Z t))):=m.over 0 rfl (Ns (bm j Y Z t));generalize an.setRow r (Ns (bm j Y Z t))=bz at m|-;refine aC ?_;have a:=m;clear m;have bx:=x1;have hA:=A1.out;have bb:=A2.out;go_wp2_with fail;refine gvW a H5 (λx1 a=>?_);clear bx hA bb;go_wp2_with fail;refine(HM.out _).mono ?_;rintro e w5 ⟨bk,rfl,bi,a0,k5⟩;have a6:∀x∈ [(r,Ns (bm j Y Z t),61)],x.1≠bk:=λx hx=>by rw[List.mem_singleton.1 hx];have:=(a.get 0 rfl).lt;dsimp only at this|-;omega
    have a4:r<=bk:=by have:=(a.get 0 rfl).lt;dsimp only at this;omega
    replace a:=a.keep k5;clear k5;replace a:=a.push a0 a4 a6;clear a0 a6 a4 bi;have a8:=Qh λn h=>H8.out n bk h
    clear H8;go_wp2_with fail;refine gvW a H6 (λx3 a=>?_);go_wp2_with (first
     |(refine asW a twN sD rfl (aK _) (λv4 a=>?_);generalize x3.heap.size=q2 at a|-))
    refine rgS [13] a.drew (λcd c=>?_);clear a;refine ae 0 73 c ?_;refine ac 1 74 (v:=Qa G2) c ?_ ?_
    .exact λn _=>(by have hx:=x2;go_simp;try (with_reducible rfl))
    refine ae 4 77 c ?_;simp only[qQ];refine ar 6 79 t61 (λ_ h=>h.get 2 rfl) b0 c ?_;refine ar 8 81 t59 (λ_ h=>h.get 0 rfl) sD c ?_;refine ar 9 82 t59 (λ_ h=>h.get 0 rfl) sD c ?_;try simp only[qQ]
    refine yh 1 [(2,75,Qd (Ns B)),(3,76,Qd (Ns M1)),(5,78,Qa KS),(7,80,Qd (Ns M2)),(10,83,Qd (Ns TW)),(11,84,Qd (Ns R))] 12 14 (Ns S) 61 c ⟨vc H7,vc H9,vcX (λ_ h=>a8.out _ (h.get 1 rfl)),vc J1,vc J2,vc J3⟩ (λn' q3 cx a=>?_);clear c;simp only[kf,List.map_cons,List.map_nil,List.cons_append,Q8,List.foldl_cons,List.foldl_nil,qQ];refine ltW 13 0 a Tryz.infoP64 a7 ab (aK _) (λb3 a=>?_);refine aC ?_;go_wp2_with fail;refine rgS [] a.drew (λed c=>?_);clear a;refine ar 0 85 t61 (λ_ h=>h.get 0 rfl) a7 c ?_;refine ae 2 87 c ?_;refine ac 3 88 (v:=Qa C) c ?_ ?_
    .exact λn _=>(by have hx:=x1;go_simp;try (with_reducible rfl))
    try simp only[qQ]
    refine aF 1 λK f=>?_
    go_simp;go_wp2_with (go_at_call 40;refine gv J4 λba p=>?_);have l:=c.keep p;refine f.out _ _ l ?_;try simp only[qQ]
    clear f K p c;have I:Hid (Jf w.heap.size w ba):=by
     have h1:=l.below;rw[<-ay.out]at h1;exact o.trans (h1.mono o.size)
    by_cases hc:Q=C
    .rw[decide_eq_true hc]at u;subst hc;refine ae 4 89 (v:=Qf true) l ?_;try simp only[qQ]
     refine ae 5 6 (v:=Qf true) l ?_;try simp only[qQ]
     refine aC ?_;go_wp2;go_ret;exact⟨by rw[<-u.out];rfl,I.out⟩
    .rw[decide_eq_false hc]at u;have b4:=acv hc;refine ae 4 89 (v:=Qf false) l ?_;try simp only[qQ]
     refine ae 5 6 (v:=Qf false) l ?_;try simp only[qQ]
     refine aC ?_;go_wp2;go_ret;exact⟨by rw[<-u.out];rfl,I.out⟩
   .have hr:a9=false:=by
     rw[<-u.out];cases G<;>cases H<;>simp_all
    subst hr;have a1:=a.below;have I:=Qh (o.trans (a1.mono o.size));clear a1 a;cases G with
    |false=>
     go_wp2_with (refine QW rfl 61 _ _ rfl s.heap.size _ rfl rfl 61 _ E (by rw[A];exact Tryz.infoP64) (by rw[A,ab]) (aK _) ?_);go_ret;exact⟨rfl,I.out⟩
    |true=>
     cases H with
     |true=>exact absurd ⟨rfl,rfl⟩ a5
     |false=>
      go_wp2_with (refine QW rfl 61 _ _ rfl s.heap.size _ rfl rfl 61 _ E (by rw[A];exact Tryz.infoP64) (by rw[A,ab]) (aK _) ?_);go_ret;exact⟨rfl,I.out⟩
def km(p:Rp_Pn):Rp_Pn:=⟨au (am 0) p.x,p.y,p.z,au (am 0) p.t⟩
def wS(p:Rp_Pn)(i d g:ByteArray):ByteArray:=⟨(oQ (iO (bU (g.extract 32 64) da) (bU (fS (ji (g.extract 0 32) i d)) (km p)) fH)).toArray⟩
def wT(i d g:ByteArray):Bool:=decide (ll (g.extract 32 64)<be)&&(cW i).isSome&&decide (wS (jQ (cW i)) i d g=g.extract 0 32)
def jN(i d g:ByteArray):Bool:=if i.size=32/\d.size<=12000/\g.size=64 then wT i d g else false
theorem Rh{p:Rp_Pn}(h:Rp_Fine p):Rp_Fine (km p):=Rp_Fine.of (bl (am 0) p.x f8 h.1) h.2.1 h.2.2.1 (bl (am 0) p.t f8 h.2.2.2)
theorem Yn(p:Rp_Pn):(km p).x=au (am 0) p.x:=by unfold km;dsimp only
theorem Yo(p:Rp_Pn):(km p).t=au (am 0) p.t:=by unfold km;dsimp only
theorem Ym(p:Rp_Pn):(km p).y=p.y:=by unfold km;dsimp only
theorem Yl(p:Rp_Pn):(km p).z=p.z:=by unfold km;dsimp only
theorem LU(p:Rp_Pn):bc p=bm p.x p.y p.z p.t:=rfl
theorem T4(p:Rp_Pn):bc (km p)=bm (km p).x p.y p.z (km p).t:=by rw[LU,Ym,Yl]
theorem OH(i d g:Qb)(w:QU)(p:i.size=32)(hd:d.size<=12000)(z:g.size=64):
  Rw 102 #[Qa i,Qa d,Qa g] w (Qf (wT i d g)):=by
 have I:(g.extract 0 32).size=32:=by rw[Ji,z];rfl
 have h2:(g.extract 32 64).size=32:=by rw[Ji,z];rfl
 have c:=Ge i;have n:=Rh c;have A:=rf (g.extract 32 64) da Rp_base_fine;have B:=rf (fS (ji (g.extract 0 32) i d)) _ n;have C:=oC A B n8;have ab:(g.extract 32 64).data.toList.length=32:=by
  have:∀s:ByteArray,s.data.toList.length=s.size:=λs=>ss
  rw[this,h2]
 have S:(g.extract 0 32++i).size=64:=by rw[Jh,I,p]
 have c1:(g.extract 0 32++i++d).size<=100000:=by rw[Jh,S];omega
 have T:Hid (Jo .add (g.extract 0 32) i=pure (Qa (g.extract 0 32++i))):=bB _ _ (by rw[I,p];omega);have W:Hid (Jo .add (g.extract 0 32++i) d=pure (Qa (g.extract 0 32++i++d))):=bB _ _ (by rw[S];omega);have y:ll (g.extract 32 64)<256^32:=Xw _ h2;have L:ll (g.extract 32 64)<256^33:=Qx y dd;have J:∀k,k<32->aV (ll (g.extract 32 64)) k=(g.data.toList.getD (32+k) 0).toNat:=λk Q=>by unfold ll;rw[Nv _ _ (by rw[ab];exact Q),abG _ _ Q]
 have u:Hid (∀a:QU,QV QI 153 #[Qa (o9 (g.extract 0 32++i++d))] a λe w'=> ∃b:Nat,e=Jk (Qc (some ⟨b,0,none⟩) 33 33)/\a.heap.size<=b/\Blk w' b (Us (cl (ji (g.extract 0 32) i d))) 3/\Jf a.heap.size a w'):=λa=>Hh _ a (by rw[show (o9 (g.extract 0 32++i++d)).size=64 from fR ai _];omega)
 have E:Hid (Rv 36 #[Qa (g.extract 0 32++i++d)] (Qa (o9 (g.extract 0 32++i++d)))):=λa=>kE _ a oo
 have q:Hid (∀(a:QU) (b:Nat),Blk a b (Us (cl (ji (g.extract 0 32) i d))) 3->Rw 154 #[Qc (some ⟨b,0,none⟩) 33 33] a (Qa (fS (ji (g.extract 0 32) i d)))):=λa b h=>OE _ b 33 a h
 have R:=oB (ji (g.extract 0 32) i d);have o:Hid (Rv 86 #[Qa i] (Qg #[Qd (Ns (bc (jQ (cW i)))),Qf (cW i).isSome])):=λa=>L9 i p a
 have x:Hid (Rv 40 #[Qd (Ns (bc (iO (bU (g.extract 32 64) da) (bU (fS (ji (g.extract 0 32) i d)) (km (jQ (cW i)))) fH)))] (Qa (wS (jQ (cW i)) i d g))):=λa=>zy _ C a
 have m:=Qr (Uc _ _ _ A B n8)
 have r:=Qr (yM _ _ h2 Rp_base_fine)
 have f:=Qr (yM _ _ R n)
 have j:=Qr (kB _ _ f8 c.1)
 rw[<-Yn]at j;have l:=Qr (kB _ _ f8 c.2.2.2)
 rw[<-Yo]at l;have t:Hid (∀a:QU,Blk a w.heap.size (Us (cl (ll (g.extract 32 64)))) 3->Rw 152 #[Qc (some ⟨w.heap.size,0,none⟩) 33 33] a (Qf (decide (ll (g.extract 32 64)<be)))):=λa h=>SZ _ _ 33 a L h
 have D:=Qr (mL 0)
 have F:=Qr (Hi)
 have G:=Qr (OD)
 have v:Hid (Rv 80 #[Qd (Ns fA),Qd (Ns fA)] (Qd (Ns fH))):=λa=>oq _ _ fe fe a
 have K:=fe.1;have O:=C.row;have M:wT i d g=(decide (ll (g.extract 32 64)<be)&&(cW i).isSome&&decide (wS (jQ (cW i)) i d g=g.extract 0 32)):=rfl;rw[M];clear M A B C;rw[T4]at f;rw[LU]at o;generalize bc (iO (bU (g.extract 32 64) da) (bU (fS (ji (g.extract 0 32) i d)) (km (jQ (cW i)))) fH)=SU at m x O;generalize bc (bU (g.extract 32 64) da)=M1 at r m;generalize bc (bU (fS (ji (g.extract 0 32) i d)) (km (jQ (cW i))))=M2 at f m;generalize wS (jQ (cW i)) i d g=WW at x|-;generalize km (jQ (cW i))=H at f j l n;generalize jQ (cW i)=P at f o j l c;generalize (cW i).isSome=OK at o|-;generalize decide (ll (g.extract 32 64)<be)=LO at t|-;generalize ll (g.extract 32 64)=N at y L J t;generalize bc da=X at G r;generalize fH=TW at v m;generalize fA=FA at F v K;generalize am 0=O0 at D j l;generalize fS (ji (g.extract 0 32) i d)=KS at q f R;generalize cl (ji (g.extract 0 32) i d)=NK at u q;generalize o9 (g.extract 0 32++i++d)=Z at u E;exact Wn i d g (g.extract 0 32) (g.extract 32 64) (g.extract 0 32++i) (g.extract 0 32++i++d) Z KS WW N NK LO OK P.x P.y P.z P.t O0 H.x H.t FA TW X M1 M2 SU w
  p hd z y J c.1.1 c.2.1.1 c.2.2.1.1 c.2.2.2.1 n.1.1 n.2.2.2.1 K O rfl rfl T W t u q o D j l E F G r f v m x
theorem Rq(i d g:Qb)(w:QU):
  Rw 102 #[Qa i,Qa d,Qa g] w (Qf (jN i d g)):=by
 by_cases h:i.size=32/\d.size<=12000/\g.size=64
 .have a:jN i d g=wT i d g:=by unfold jN;rw[if_pos h]
  rw[a];exact OH i d g w h.1 h.2.1 h.2.2
 .have a:jN i d g=false:=by unfold jN;rw[if_neg h]
  rw[a];clear a;by_cases k:i.size=32
  .have b:((i.size:Int) !=32)=false:=by simp;omega
   have c:(i.size:Int)=32:=oo
   by_cases h2:d.size<=12000
   .have e:¬(12000:Int)<(d.size:Int):=oo
    have f:((g.size:Int) !=64)=true:=by simp;omega
    have j:¬(g.size:Int)=64:=oo
    go_enter QL,QJ;go_wp2;go_ret;exact⟨rfl,Jr _ _⟩
   .have e:(12000:Int)<(d.size:Int):=oo
    go_enter QL,QJ;go_wp2;go_ret;exact⟨rfl,Jr _ _⟩
  .have b:((i.size:Int) !=32)=true:=by simp;omega
   have c:¬(i.size:Int)=32:=oo
   go_enter QL,QJ;go_wp2;go_ret;exact⟨rfl,Jr _ _⟩
end Go.Proofs.YtclpbaokadfhhaaGreatDoor
