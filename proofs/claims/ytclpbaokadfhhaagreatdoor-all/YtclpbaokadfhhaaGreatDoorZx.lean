import Derived.Test.YtclpbaokadfhhaaGreatDoorXl
import Derived.Deep.DeepCutAuto
set_option maxRecDepth 100000
set_option maxHeartbeats 4000000
open List renaming take_append_of_le_length->Qa,take_of_length_le->Qc,drop_of_length_le->Qd,getElem?_take_of_lt->Qe,length_append->Qf,drop_append->Qg,set_append->Qi,nil_append->Qj,take->Qk,drop->Qm
open Go.Value renaming int->Qn,string->Qo,slice->Qp
open BitVec renaming ofNat->Qq,toNat_ofNat->Qt,eq_of_toNat_eq->Qx
open Go.Proofs.Tryz renaming prog->Qy,underlying55->Qz
open Go.IntKind renaming u64->QA,wrap_u64->QB,u8->QC,i64->QD,wrap_i64->QE
open Go.Proofs.YtclpbaokadfhhaaGreatDoor renaming Sha_rootsW->QF,Sha_first->QG,Sha_St->QH
open Go.Obj renaming cells->QI
open Go.ByteArray renaming mk_append_mk->QJ
open Nat renaming zero_add->QL,sub_self->QM,le_of_eq->QN,mul_one->QO
namespace Go.Proofs.YtclpbaokadfhhaaGreatDoor
open Go.RowKit
theorem Io{w:World}{base:Nat}{v:Value}{l:List UInt8}(h:OwnB w base v l)(x:UInt8)(g1:Nat)(hx:w.cell? ⟨g1,0,none⟩=some (.int .u8 (x.toNat:Int)))(hb:base<=w.heap.size)(hl:l.length<1000000000):
  ∃v' w',(Builtin.append_ #[55,55] 55 #[v,.slice (some ⟨g1,0,none⟩) 1 1]).run Tryz.prog w=.ok v' w'/\OwnB w' base v' (l++ [x])/\Below base w w':=by
 obtain⟨i,hi,adP⟩:=Option.map_eq_some_iff.1 Tryz.infoByte;simp only[Prod.mk.injEq]at adP;obtain⟨hz,hs,hby⟩:=adP;obtain⟨g,cap,cur,fz,rfl,hg,hh,hfz,aee,hlc,ht⟩:=h;have adS:∀u∈ [Value.int .u8 (x.toNat:Int)],u.oneCell'=true:=by intro u hu;simp at hu;subst hu;rfl
 have aed:Src Tryz.prog i.size 55 (.slice (some ⟨g1,0,none⟩) 1 1) 1 [Value.int .u8 (x.toNat:Int)] w:=by
  rw[hs];refine Src.ofSlice w Tryz.underlying55 _ 1 1 _ rfl ?_ adS;intro j u hu;match j,hu with
  |0,hu=>simp at hu;subst hu;simpa [Addr.add]using hx
 by_cases hroom:l.length+1<=cap
 .have hc:w.cell? ⟨g,l.length,none⟩=cur[l.length]? :=cell_of_row w g _ cur _ fz hh;have hlt:l.length<cur.size:=oo
  have hf:w.frozen? ⟨g,l.length,none⟩=false:=by
   simp only[World.frozen?,hh];rcases hfz with rfl|hfz
   .simp
   .simp;omega
  have hr:=run_append_room_src (P:=Tryz.prog) w 55 55 55 5 i Tryz.underlying55 hi g 0 l.length cap _ 1 _ aed hroom
   (by intro j hj;match j,hj with|0,_=>rw[hs];simp[hc,hlt])
   (by intro j hj;match j,hj with|0,_=>rw[hs];simpa using hf)
  refine⟨_,_,hr,?_,?_⟩
  .rw[hs];have he:w.setCells g (0+l.length*1) [Value.int .u8 (x.toNat:Int)]=w.setRow g (cur.setIfInBounds l.length (.int .u8 (x.toNat:Int))):=by
    simp only[World.setCells,Nat.zero_add,Nat.mul_one];exact setCell_eq_setRow w g _ cur _ fz _ hh
   rw[he];refine⟨g,cap,_,fz,ss,hg,setRow_heap w g cur _ _ fz hh,by simpa using hfz,by simp[aee],by simp;omega,?_⟩;apply List.ext_getElem?
   intro j;rw[List.length_append,List.length_singleton,List.getElem?_take];by_cases hj:j<l.length+1
   .rw[if_pos hj];by_cases hj2:j=l.length
    .subst hj2;simp[Bs,hlt]
    .have hj3:j<l.length:=oo
     have h2:(cur.toList.take l.length)[j]? =(Bs l)[j]? :=by rw[ht];simp
     rw[List.getElem?_take_of_lt hj3]at h2;have h3:(Bs (l++ [x]))[j]? =(Bs l)[j]? :=by rw[zT,zT,List.getElem?_append_left hj3]
     simp only[Array.toList_setIfInBounds,List.getElem?_set];rw[if_neg oo];rw[show (Bs (l++ [x])).toList[j]? =(Bs (l++ [x]))[j]? by simp,h3,<-h2]
   .rw[if_neg hj];simp[Bs];omega
  .rw[hs];simp only[World.setCells,Nat.zero_add,Nat.mul_one];exact bR.setCell hg _
 .have hold:(Builtin.firstCells i.size l.length (.slice (some ⟨g,0,none⟩) l.length cap)).run Tryz.prog w.drew=.ok (Bs l).toList.toArray w.drew:=by
   rw[hs];refine run_firstCells_some w.drew 1 l.length _ l.length cap _ (by simp[Bs]) ?_;intro j u hu;have hj:j<l.length:=by
    have:=(List.getElem?_eq_some_iff.1 hu).1;simpa [Bs]using this
   have adW:(⟨g,0,none⟩:Addr).add j=⟨g,j,none⟩:=by unfold Addr.add;split<;>simp_all
   rw[adW];have h2:(cur.toList.take l.length)[j]? =(Bs l).toList[j]? :=by rw[ht]
   rw[List.getElem?_take_of_lt hj,hu]at h2;show w.cell? _=_
   rw[cell_of_row w g j cur _ fz hh];simpa using h2
  have hr:=run_append_grow_src (P:=Tryz.prog) w 55 55 55 5 i _ Tryz.underlying55 hi hz (some ⟨g,0,none⟩) l.length cap (Bs l).toList hold _ 1 _ aed oo oo
   (by rw[hby];exact growslice_fits oo oo)
  refine⟨_,_,hr,?_,bR.drew.alloc hb _⟩;have hge:=grownCap_ge w (l.length+1) cap 5;refine⟨w.heap.size,grownCap w (l.length+1) cap 5,_,(0,0),ss,hb,heap_alloc_new w.drew _,.inl rfl,?_,by simpa using hge,?_⟩
  .simp[Bs,Builtin.zeroCells,Value.cells];omega
  .have e1:(l++ [x]).length=l.length+1:=ss
   have e2:((Bs l).toList++ [Value.int IntKind.u8 (x.toNat:Int)]).length=l.length+1:=by simp[Bs]
   rw[e1,Array.toList_append,List.take_append_of_le_length (Nat.le_of_eq e2.symm),List.take_of_length_le (Nat.le_of_eq e2)];simp[Bs]
theorem Nq(l:Qu)(off:Nat)(x:Qv)(k:Nat)(h:off+k<=l.length):kz l off x k=l.take off++fE x k++l.drop (off+k):=by
 induction k with
 |zero=>simp[kz,fE]
 |succ k b=>
  have a:(l.take off++fE x k).length=off+k:=by simp[mP];omega
  rw[kz,b oo,Qi,if_neg oo,a,QM,List.drop_eq_getElem_cons oo,List.set_cons_zero,fE];simp[Nat.add_assoc]
def Ref.k0(n:Nat):Nat:=cg n-n-17
theorem xh(a b:Nat):aq (a+b)=aq a++aq b:=by simp[aq]
theorem Hq(a b:Nat):(aq b).drop a=aq (b-a):=by simp[aq]
theorem abq(l:Qu)(h:l.length<1000000000):kA l=l++ [128]++aq (Ref.k0 l.length)++fE 0 8++fE (Qq 64 (8*l.length)) 8:=by
 have m:=oI l.length;have d:cg l.length=l.length+17+Ref.k0 l.length:=by unfold Ref.k0;omega
 have e:wQ l=(l++ [128]++aq (Ref.k0 l.length))++aq 16:=by
  unfold wQ;rw[Qi,if_neg oo,QM,d,show l.length+17+Ref.k0 l.length-l.length=1+(Ref.k0 l.length+16) by omega,xh 1,xh];simp[aq]
 have a:(l++ [128]++aq (Ref.k0 l.length)).length=cg l.length-16:=by simp[fD];omega
 have b:Qq 64 l.length>>>61=0:=by
  apply Qx
  rw[BitVec.toNat_ushiftRight,Qt,Nat.mod_eq_of_lt oo,Nat.shiftRight_eq_div_pow];simp;omega
 have c:Qq 64 l.length<<<3=Qq 64 (8*l.length):=by
  apply Qx
  rw[BitVec.toNat_shiftLeft,Qt,Qt,Nat.shiftLeft_eq];omega
 unfold kA;rw[b,c,e];generalize l++ [128]++aq (Ref.k0 l.length)=L at a;generalize Qq 64 (8*l.length)=X;have n:(L++aq 16).length=cg l.length:=by simp[fD];omega
 rw[Nq _ _ X 8 (by rw[qr];omega),Nq _ _ _ 8 oo];have f:Qk (cg l.length-16) (L++aq 16)=L:=by rw[Qa oo,Qc oo]
 have g:Qm (cg l.length-16+8) (L++aq 16)=aq 8:=by
  rw[Qg,Qd oo,Hq,a,Qj];congr 1;omega
 rw[f,g];have k:(L++fE 0 8).length=cg l.length-8:=by simp[mP];omega
 have i:Qk (cg l.length-8) (L++fE 0 8++aq 8)=L++fE 0 8:=by rw[Qa oo,Qc oo]
 have j:Qm (cg l.length-8+8) (L++fE 0 8++aq 8)=[]:=by
  apply Qd;simp[mP,fD];omega
 rw[i,j,List.append_nil]
def Ref.tell(s:QH):Nat->List UInt8
 |0=>[]
 |k+1=>Ref.tell s k++fE (s.list.getD k 0) 8
theorem Ref.tell_length(s:QH)(k:Nat):(Ref.tell s k).length=8*k:=by
 induction k with
 |zero=>rfl
 |succ k a=>simp only[Ref.tell,Qf,a,mP];omega
theorem Zs(s:QH)(k:Nat)(c:k<=8):iV s k=Ref.tell s k++aq (64-8*k):=by
 induction k with
 |zero=>rfl
 |succ k b=>
  have a:=Ref.tell_length s k;rw[iV,b oo,Nq _ _ _ 8 (by simp[a,fD];omega),Qa oo,Qc oo,Qg,Qd oo,Hq,a,Qj,Ref.tell];congr 2
  omega
theorem Xb(s:QH):iV s 8=Ref.tell s 8:=by rw[Zs s 8 oo];simp[aq]
theorem OwnB.string{w:World}{b g n cap:Nat}{l:Qu}(h:OwnB w b (Qp (some ⟨g,0,none⟩) n cap) l)(c:n=l.length):
  (convert 55 9 (Qp (some ⟨g,0,none⟩) n cap)).run Qy w=.ok (Qo ⟨l.toArray⟩) w:=by
 subst c;refine run_convert_bytes_back w _ _ 5 _ cap l Qz Tryz.underlying5 Tryz.underlying9 ?_;intro j a;have:(⟨g,0,none⟩:Addr).add j=⟨g,j,none⟩:=by unfold Addr.add;split<;>simp_all
 rw[this,h.cell j a];simp[List.getD,List.getElem?_eq_getElem a]
theorem VM(L:Qu)(a b:Qu):((⟨L.toArray⟩++⟨a.toArray⟩++⟨b.toArray⟩:ByteArray)).data.toList=L++a++b:=by
 rw[QJ,QJ]
theorem Vx(v:Int)(x:Qv)(a:v=U x)(w:World):
  Rw 76 #[Qn QA v] w (Qo ⟨(fE x 8).toArray⟩):=by
 subst a;exact PM x w
theorem D8(v:Int)(x:Qv)(b:v=U x)(l:Qu)(a:Hid (fE x 8=l))(w:World):
  Rw 76 #[Qn QA v] w (Qo ⟨l.toArray⟩):=by
 rw[<-a.out];exact Vx v x b w
theorem OwnB.keep{w w':World}{a:Nat}{v:Value}{l:Qu}(h:OwnB w a v l)(b:Below w.heap.size w w'):OwnB w' a v l:=h.below b nR
theorem Ve(F G:Nat->BitVec 64)(h:∀t,t<16->F t=G t)(t:Nat):cZ F t=cZ G t:=by
 induction t using Nat.strongRecOn with
 |_ t a=>
  by_cases b:t<16
  .rw[yC _ _ b,yC _ _ b,h t b]
  .rw[yD F t oo,yD G t oo,a (t-2) oo,a (t-7) oo,a (t-15) oo,a (t-16) oo]
theorem Tr(K:Nat->BitVec 64)(s:QH)(f g:Nat->UInt8)(h:∀i,i<128->f i=g i):kT K s f=kT K s g:=by
 have e:(cZ λt=>jh (λi=>f (8*t+i)) 8)=(cZ λt=>jh (λi=>g (8*t+i)) 8):=by
  funext t
  exact Ve _ _ (λt ht=>Nc _ _ _ (λi a=>h _ oo)) t
 unfold kT;rw[e]
theorem ZL(st:QH)(s:Qb)(f:Nat->UInt8)(a:Nat)(w:World)(g:s.size=128)(b:Hid (∀i,i<128->s.data.toList.getD i 0=f i))(d:Blk w a (Ws QF) 67):
  Calls Qy 78 #[.agg #[Qn QA (U st.a),Qn QA (U st.b),Qn QA (U st.c),Qn QA (U st.d),Qn QA (U st.e),Qn QA (U st.f),Qn QA (U st.g),Qn QA (U st.h)],Qo s,Qp (some ⟨a,0,none⟩) 80 80] w λe w'=>
   e=.returned (.agg (Ws (kT ai st f).list))/\Below w.heap.size w w':=by
 rw[<-Tr ai st _ f b.out];exact Vq st s a w g (λi c=>by rw[d.cell i];exact Mz i c)
theorem kE(s:ByteArray)(w:World)(hs:s.size<=1000000):
  Rw 36 #[Qo s] w (Qo (fQ ai s)):=by
 obtain⟨cd,z,bz,c,b⟩:=bytesOf s w.heap.size w nR;have a6:s.data.toList.length=s.size:=by simp
 have bb:∀o,(z.alloc (QI #[Qn QC 128] o)).cell? ⟨z.heap.size,0,none⟩=some (Qn QC (((128:UInt8).toNat:Nat):Int)):=λo=>by
  rw[(Blk.new z #[Qn QC 128] o).cell 0];rfl
 obtain⟨v2,w2,F,ab,h⟩:=Io (c.below ((Below.refl z.heap.size z).alloc nR (QI #[Qn QC 128] 5)) nR) 128 z.heap.size (bb _) (by simp;have:=b.size;omega) (by omega);have a:Below w.heap.size w w2:=(b.alloc b.size _).trans h;have C:Hid _:=F;clear F;have a5:s.size+1+Ref.k0 s.size<=2000000/\(s.size+1+Ref.k0 s.size)%128=112/\Ref.k0 s.size<128:=by
  have:=oI s.size;unfold Ref.k0;omega
 have d:Hid (fQ ai s=⟨(Ref.tell (kS ai (s.data.toList++ [128]++aq (Ref.k0 s.size)++fE 0 8++fE (Qq 64 (8*s.size)) 8) ((s.size+17+Ref.k0 s.size)/128)) 8).toArray⟩):=by
  show _=_
  have hp:=abq s.data.toList (by omega);have cz:=oI s.size;rw[a6]at hp;unfold fQ aj;rw[Xb,<-hp,Bu,a6,show cg s.size=s.size+17+Ref.k0 s.size by unfold Ref.k0;omega]
 generalize fQ ai s=D at d|-;generalize Ref.k0 s.size=Q at a5 d;obtain⟨cr,cs,cv⟩:=a5;have z0:s.data.toList++ [128]=s.data.toList++ [128]++aq 0:=by simp[aq]
 rw[z0]at ab;clear z0 c bb;go_enter Tryz.func36,Tryz.ntmps36;go_wp2_with (at_builtin;refine Lib.wpList_append_run _ rfl _ _ _ _ rfl _ _ rfl rfl _ _ C.out ?_);clear bz C;go_loopw [4] (λv wr=> ∃k:Nat,k<=Q/\OwnB wr w.heap.size v (s.data.toList++ [128]++aq k)/\Below w.heap.size w wr) (λv _=>s.size+1+Q-pM v)
 case atStart=>exact⟨0,by omega,ab,a⟩
 case round=>
  clear ab a b h;obtain⟨k,hk,c,a⟩:=hrel;have n:(s.data.toList++ [128]++aq k).length=s.size+1+k:=by simp[fD];omega
  have b8:=c;obtain⟨g,cap,ce,fz,rfl,hg,hh,b2,bs,b5,ht⟩:=b8;clear hh b2 bs b5 ht;rw[n]at c|-;by_cases a7:k<Q
  .have W:(((s.size+1+k:Nat):Int)%128 !=112)=true:=by rw[bne_iff_ne];omega
   have cc:(wr.alloc (QI #[Qn QC 0] 5)).cell? ⟨wr.heap.size,0,none⟩=some (Qn QC (((0:UInt8).toNat:Nat):Int)):=by
    rw[(Blk.new wr #[Qn QC 0] 5).cell 0];rfl
   obtain⟨v3,B,F,ad,O⟩:=Io (c.below ((Below.refl wr.heap.size wr).alloc nR (QI #[Qn QC 0] 5)) nR) 0 wr.heap.size cc (by simp;have:=a.size;omega) (by omega);have C:Hid _:=F;clear F;have hz:s.data.toList++ [128]++aq k++ [0]=s.data.toList++ [128]++aq (k+1):=by rw[xh k 1];simp[aq]
   rw[hz]at ad;clear hz;have bq:Below w.heap.size w B:=(a.alloc a.size _).trans O;have b4:pM v3=s.size+1+(k+1):=by
    obtain⟨_,_,_,_,rfl,_⟩:=ad;simp[pM,fD];omega
   generalize H:s.size+1+k=m at W C n c;have E:Hid _:=H;clear H;go_wp2_with (at_builtin;refine Lib.wpList_append_run _ rfl _ _ _ _ rfl _ _ rfl rfl _ _ C.out ?_);go_roundw
   case rel=>exact⟨k+1,by omega,ad,bq⟩
   case measure=>rw[b4];simp only[pM];have:=E.out;omega
  .have b3:k=Q:=by omega
   subst b3;have W:(((s.size+1+k:Nat):Int)%128 !=112)=false:=by rw[bne_eq_false_iff_eq];omega
   generalize s.data.toList++ [128]++aq k=L at n c d;generalize H:s.size+1+k=m at W n c;have E:Hid _:=H;clear H;have h8:8*(s.size:Int)=U (Qq 64 (8*s.size)):=by rw[<-wK (8*s.size) (by omega)];omega
   have R:Hid _:=h8;clear h8;have t:Hid _:=VM L (fE 0 8) (fE (Qq 64 (8*s.size)) 8);generalize Qq 64 (8*s.size)=X at R d t;have bY:(convert 55 9 (Qp (some ⟨g,0,none⟩) m cap)).run Qy wr.drew=.ok (Qo ⟨L.toArray⟩) wr.drew:=OwnB.string (w:=wr.drew) c n.symm;have ah:=mP 0 8;have an:=mP X 8;generalize ay:fE 0 8=p at ah t d;generalize az:fE X 8=r at an t d;have bi:Hid (fE 0 8=p):=ay;have bk:Hid (fE X 8=r):=az;clear ay az;have cw:m<=2000000:=by have:=E.out;omega
   have bd:Hid (QA.wrap (8*QA.wrap (s.size:Int))=U X):=by
    show _=_
    rw[QB,QB,<-show 8*(s.size:Int)=U X from R.out];omega
   go_wp2_with fail;go_cut [5] (λv wc=>v=Qo (⟨L.toArray⟩++⟨p.toArray⟩++⟨r.toArray⟩)/\Below w.heap.size w wc)
   case first=>
    go_region_with (first
     |(go_at_call_of 76 (Qn QA 0);refine mo (D8 _ 0 rfl p bi _) λw2 h=>?_;have a8:OwnB w2 _ _ _:=OwnB.keep (w:=wr.drew) c h;have co:=OwnB.string a8 n.symm)
     |(go_at_call 76;refine(D8 _ X ?_ r bk _).mono ?_;(first|exact R.out|exact bd.out);rintro e B ⟨rfl,O⟩;have cp:=OwnB.string (OwnB.keep a8 O) n.symm))
    all_goals
     go_wp2_with fail;go_meet
     case rel=>
      refine⟨rfl,?_⟩;have hq:=Below.trans (Below.drew a) (Below.mono h (by have:=a.size;exact this));exact hq.trans (O.mono (by have:=hq.size;exact this))
   case rest=>
    obtain⟨rfl,G⟩:=hcut;have bt:(⟨L.toArray⟩++⟨p.toArray⟩++⟨r.toArray⟩:ByteArray).size=m+16:=by
     rw[ByteArray.size_append,ByteArray.size_append];show L.toArray.size+p.toArray.size+r.toArray.size=_
     simp[n,ah,an]
    generalize (⟨L.toArray⟩++⟨p.toArray⟩++⟨r.toArray⟩:ByteArray)=A at t bt|-;generalize hP:L++p++r=P at t d;clear hP bY c;have M:Blk ((wc.alloc (QI (Ws QF) 67)).alloc (QI (Ws QG.list) 101)) wc.heap.size (Ws QF) 67:=heap_alloc2_old wc _ _;have N:Blk ((wc.alloc (QI (Ws QF) 67)).alloc (QI (Ws QG.list) 101)) (wc.heap.size+1) (Ws QG.list) 101:=heap_alloc2_new wc _ _;have Z:Below w.heap.size w ((wc.alloc (QI (Ws QF) 67)).alloc (QI (Ws QG.list) 101)):=(G.alloc G.size _).alloc (by have:=G.size;simp;omega) _;have cb:=G.size;go_wp2_with (go_at_call 77;refine(Vi _).mono ?_;rintro e w' ⟨rfl,rfl⟩);rw[NF];generalize (wc.alloc (QI (Ws QF) 67)).alloc (QI (Ws QG.list) 101)=w4 at M N Z|-;generalize wc.heap.size=J at M N cb|-;go_loopw [8] (λi wr=> ∃j:Nat,128*j<=m+16/\i=Qn QD (128*j:Nat)/\Blk wr (J+1) (Ws (kS ai P j).list) 101/\Blk wr J (Ws QF) 67/\Below w.heap.size w wr) (λi _=>m+16-(intOf i).toNat)
    case atStart=>exact⟨0,by omega,rfl,N,M,Z⟩
    case round=>
     clear M N Z G;obtain⟨j,hj,rfl,b,h,a⟩:=hrel;have cx:(m+16)%128=0:=by have:=E.out;omega
     by_cases a7:128*j<m+16
     .have b6:128*j+128<=m+16:=by omega
      obtain⟨f,hf⟩:∃f:Nat->UInt8,f=λi=>P.getD (128*j+i) 0:=⟨_,rfl⟩
      have T:Hid (kS ai P (j+1)=kT ai (kS ai P j) f):=by rw[hf];rfl
      have ag:Hid (∀i,i<128->(A.extract (128*j) (128*j+128)).data.toList.getD i 0=f i):=λi hi=>by
       rw[Ea A _ _ i (by omega) (by omega),hf,show A.data.toList=P from t.out]
      clear hf;generalize ba:kS ai P j=st at b T;clear ba;generalize ao:128*j=u at a7 b6 T ag;have S:Hid _:=ao;clear ao;obtain⟨c0,c1,c2,c3,c4,c5,c6,c7⟩:=Ij b;have a0:(u:Int)<(m:Int)+16:=by omega
      have a2:(u:Int)+128<=(m:Int)+16:=by omega
      have a3:QD.wrap ((u:Int)+128)=(u:Int)+128:=by rw[QE];omega
      have b1:(A.extract u (u+128)).size=128:=by simp;omega
      have cK:∀s:QH,(Ws s.list).size=8:=λs=>by rw[dA];rfl
      go_wp2_with fail;go_region_with (go_at_call 78;refine(ZL st _ f J _ ?_ ?_ ?_).mono ?_;exact b1;exact ag;exact h.drew;rintro e B ⟨rfl,y⟩;have a9:Blk B _ _ _:=Blk.keep (w:=wr.drew) b y;have b9:Blk B _ _ _:=Blk.keep (w:=wr.drew) h y;have ba:=de (l:=(kT ai st f).list) a9 rfl)
      all_goals
       go_wp2;go_roundw
       case rel=>
        refine⟨j+1,by have:=S.out;omega,cH (by have:=S.out;omega),?_,?_,?_⟩
        .rw[show kS ai P (j+1)=kT ai st f from T.out];exact a9.row _
        .exact b9.other (by omega) _
        .refine below_setRow ?_ (by omega) _;exact Below.trans (Below.drew a) (Below.mono y (by have:=a.size;exact this))
       case measure=>simp[intOf];have:=S.out;omega
     .have a4:128*j=m+16:=by omega
      have a1:(s.size+17+k)/128=j:=by have:=E.out;omega
      rw[a1]at d;rw[a4,show ((m+16:Nat):Int)=(m:Int)+16 by omega];clear a1 a4 h;generalize kS ai P j=st at b d;go_wp2;go_loopw [9,10] (λo i wr=> ∃k:Nat,k<=8/\i=Qn QD k/\o=Qo ⟨(Ref.tell st k).toArray⟩/\Blk wr (J+1) (Ws st.list) 101/\Below w.heap.size w wr) (λ_ i _=>8-(intOf i).toNat)
      case atStart=>exact⟨0,by omega,rfl,rfl,b,a⟩
      case round=>
       clear b a;obtain⟨q,hq,rfl,rfl,b,a⟩:=hrel;by_cases b7:q<8
       .have hc:=b.cell q;rw[cQ _ _ (by rw[V5];exact b7)]at hc;have hl:=Ref.tell_length st q;have ap:=mP (st.list.getD q 0) 8;have I:Hid (Ref.tell st (q+1)=Ref.tell st q++fE (st.list.getD q 0) 8):=rfl;generalize st.list.getD q 0=x at hc ap I;generalize ax:fE x 8=K at ap I;have bh:Hid (fE x 8=K):=ax;clear ax;generalize Ref.tell st q=o at hl I|-;have i0:(q:Int)<8:=by omega
        go_wp2_with (go_at_call 76;refine mo (D8 _ x rfl K bh _) λB y=>?_);go_roundw
        case rel=>
         refine⟨q+1,by omega,by go_num,?_,b.keep y,a.trans (y.mono a.size)⟩;rw[show Ref.tell st (q+1)=o++K from I.out];exact congrArg Qo (QJ o K)
        case measure=>simp[intOf];omega
       .have ca:q=8:=by omega
        subst ca;go_wp2;go_ret;exact⟨by rw[show D=_ from d.out];rfl,a⟩
end Go.Proofs.YtclpbaokadfhhaaGreatDoor
