import Derived.Test.YtclpbaokadfhhaaGreatDoorZa
import Derived.BigQuiet
set_option maxRecDepth 100000
set_option maxHeartbeats 2000000
open Go.IntKind renaming u64->Qa,i64->Qc,wrap_i64->Qd,wrap_u64->Qe
open Go.Value renaming int->Qf,agg->Qg,slice->Qi
open Go renaming World->Qj,bodyPost_ret->Qk,below_setRow->Qm,below_drewN->Qn,Value->Qo,Calls->Qp,results_cell_row->Qq,block_lt_of_cell->Qt,heap_alloc2_old->Qx,heap_alloc2_new->Qy
open BitVec renaming ofNat->Qz
open Go.Obj renaming cells->QA
open Go.Proofs.Tryz renaming prog->QB,underlying146->QC,underlying101->QD
open Go.RowKit renaming intOf->QE,Below->QF
open Go.World renaming setRow_alloc_new->QG
open Go.Ending renaming returned->QJ
open List renaming getD_eq_getElem?_getD->QL
namespace Go.Proofs.YtclpbaokadfhhaaGreatDoor
open Go.RowKit
open Blk renaming new->QH,alloc->QI
def jh(f:Nat->UInt8):Nat->BitVec 64
 |0=>0
 |k+1=>jh f k<<<8|||Qz 64 (f k).toNat
theorem Sn(x:Qv)(c:UInt8):bits BinOp.or Qa (Qa.wrap (U x*256)) (Qa.wrap (c.toNat:Int))=U (x<<<8|||Qz 64 c.toNat):=by
 have h:=c.toNat_lt;rw[show (256:Int)=2^8 from rfl,Aa,wK c.toNat oo,Oa,nT]
theorem W4(b off a cap:Nat)(f:Nat->UInt8)(w:Qj)(l:8<=a)(m:a<=9223372036854775807)(_:a<=cap)
  (c:∀i,i<8->w.cell? ⟨b,off+i,none⟩=some (Qf .u8 (f i).toNat)):
  Qp QB 210 #[Qi (some ⟨b,off,none⟩) a cap] w λe w'=>e=QJ (Qf Qa (U (jh f 8)))/\w'=w:=by
 go_enter Tryz.func210,Tryz.ntmps210;go_wp2;go_loop [3,9] (λx i=> ∃k:Nat,k<=8/\i=Qf Qc k/\x=Qf Qa (U (jh f k))) (λ_ i=>8-(QE i).toNat)
 case atStart=>exact⟨0,Nat.zero_le _,rfl,rfl⟩
 case round=>
  obtain⟨k,j,rfl,rfl⟩:=hrel;by_cases g:k<8
  .have h:=c k g;clear c;have d:=Qh (Sn (jh f k) (f k));go_wp2;go_round
   case rel=>exact⟨k+1,oo,gn,cH d.out⟩
   case measure=>simp[QE];omega
  .have:k=8:=oo
   subst this;go_wp2;go_ret;exact⟨rfl,rfl⟩
def qZ(x:BitVec 64)(k:Nat):UInt8:=UInt8.ofNat (x>>>(56-8*k)).toNat
def kz(l:List UInt8)(off:Nat)(x:BitVec 64):Nat->List UInt8
 |0=>l
 |k+1=>(kz l off x k).set (off+k) (qZ x k)
theorem LD(x:Qv)(k:Nat):U x/2^(56-8*k)%256=((qZ x k).toNat:Int):=by
 rw[vq];unfold qZ U;simp
theorem qr(l:Qu)(off:Nat)(x:Qv)(k:Nat):(kz l off x k).length=l.length:=by
 induction k with
 |zero=>rfl
 |succ k a=>simp[kz,a]
theorem AN(b off c cap t:Nat)(l:Qu)(x:Qv)(w:Qj)(g:8<=c)(m:c<=9223372036854775807)(_:c<=cap)
  (a:Blk w b (Bs l) t) (h:off+8<=l.length):
  Qp QB 205 #[Qi (some ⟨b,off,none⟩) c cap,Qf Qa (U x)] w λe w'=>e=QJ (.tuple #[])/\w'=w.setRow b (Bs (kz l off x 8)):=by
 go_enter Tryz.func205,Tryz.ntmps205;go_wp2;go_loopw [5] (λi wr=> ∃k:Nat,k<=8/\i=Qf Qc k/\wr=w.setRow b (Bs (kz l off x k))) (λi _=>8-(QE i).toNat)
 case atStart=>exact⟨0,Nat.zero_le _,rfl,(setRow_self w b _ t (0,0) a).symm⟩
 case round=>
  obtain⟨k,f,rfl,rfl⟩:=hrel;by_cases j:k<8
  .have d:=(a.row (Bs (kz l off x k))).cell (off+k);rw[pY _ _ (by rw[qr];omega)]at d;have h2:=(a.row (Bs (kz l off x k))).frozen (off+k);go_wp2;go_roundw
   case rel=>exact⟨k+1,oo,gn,by rw[LD,(a.row _).set,setRow_setRow,tn];rfl⟩
   case measure=>simp[QE];omega
  .have:k=8:=oo
   subst this;go_wp2;go_end0
   exact⟨rfl,rfl⟩
def kq(f:Nat->BitVec 64):Nat->Nat->BitVec 64
 |0,_=>0
 |n+1,t=>if t<16 then f t else Bp (kq f n (t-2))+kq f n (t-7)+Bq (kq f n (t-15))+kq f n (t-16)
theorem mO(f:Nat->BitVec 64):∀n m t:Nat,t<n->t<m->kq f n t=kq f m t
 |0,_,_,h,_=>by omega
 |_,0,_,_,h=>by omega
 |n+1,m+1,t,b,a=>by
  rw[kq,kq];by_cases h:t<16
  .rw[if_pos h,if_pos h]
  .rw[if_neg h,if_neg h,mO f n m (t-2) (by omega) (by omega),mO f n m (t-7) (by omega) (by omega),mO f n m (t-15) (by omega) (by omega),mO f n m (t-16) (by omega) (by omega)]
def cZ(f:Nat->BitVec 64)(t:Nat):BitVec 64:=kq f (t+1) t
def cU(W:Nat->BitVec 64)(k:Nat):List (BitVec 64):=(List.range 80).map λi=>if i<k then W i else 0
theorem cu(W:Nat->BitVec 64)(k:Nat):(cU W k).length=80:=by simp[cU]
theorem jX(W:Nat->BitVec 64)(k i:Nat)(a:i<k)(b:k<=80):(cU W k).getD i 0=W i:=by
 have h:i<80:=oo
 simp[cU,List.getD,h,a]
theorem My(W:Nat->BitVec 64)(k:Nat)(b:k<80):(cU W k).set k (W k)=cU W (k+1):=by
 apply List.ext_getElem?
 intro i;rw[List.getElem?_set];by_cases h:k=i
 .subst h;simp[cU,b]
 .rw[if_neg h];by_cases a:i<80
  .simp only[cU,List.getElem?_map,List.getElem?_range a,Option.map_some];congr 1
   by_cases h2:i<k
   .rw[if_pos h2,if_pos oo]
   .rw[if_neg h2,if_neg oo]
  .simp[cU,a]
def nL:List (BitVec 64):=List.replicate 80 0
theorem Br(W:Nat->BitVec 64):cU W 0=nL:=by
 unfold cU nL;rw[List.eq_replicate_iff];refine⟨ss,λx a=>?_⟩;simp only[List.mem_map]at a;obtain⟨i,_,h⟩:=a;rw[if_neg oo]at h;exact h.symm
theorem UY(w:Qj):Sem.run QB (zeroValue 146) w=.ok (Qg (Ws nL)) w:=kr
theorem Tryz.info80:(QB.info? 146).map (·.size)=some 80:=kr
theorem yC(F:Nat->BitVec 64)(k:Nat)(h:k<16):cZ F k=F k:=by rw[cZ,kq,if_pos h]
theorem yD(F:Nat->BitVec 64)(k:Nat)(h:16<=k):cZ F k=Bp (cZ F (k-2))+cZ F (k-7)+Bq (cZ F (k-15))+cZ F (k-16):=by
 show kq F (k+1) k=Bp (kq F (k-2+1) (k-2))+kq F (k-7+1) (k-7)+Bq (kq F (k-15+1) (k-15))+kq F (k-16+1) (k-16)
 rw[kq,if_neg oo,mO F k (k-2+1) (k-2) oo oo,mO F k (k-7+1) (k-7) oo oo,mO F k (k-15+1) (k-15) oo oo,mO F k (k-16+1) (k-16) oo oo]
theorem xj{w wr:Qj}{B k t:Nat}{x:Int}{W:Nat->BitVec 64}(f:k<80)(b:Blk wr B (Ws (cU W k)) t)(g:w.heap.size<=B)(d:QF w.heap.size w wr)(i:x=U (W k)):
  Blk (wr.setCell ⟨B,k,none⟩ (Qf Qa x)) B (Ws (cU W (k+1))) t/\(∀b' a c,b'≠B->Blk wr b' a c->Blk (wr.setCell ⟨B,k,none⟩ (Qf Qa x)) b' a c)/\QF w.heap.size w (wr.setCell ⟨B,k,none⟩ (Qf Qa x)):=by
 subst i;refine⟨?_,?_,d.setCell g _⟩
 .rw[b.set,eC,My _ _ f];exact b.row _
 .intro b' a c h e;rw[b.set];exact e.other h _
theorem Tg(b off cap:Nat)(f:Nat->UInt8)(w:Qj)(N:cap<=9223372036854775807)(L:128<=cap)
  (l:∀i,i<128->w.cell? ⟨b,off+i,none⟩=some (Qf .u8 (f i).toNat)):
  Qp QB 171 #[Qi (some ⟨b,off,none⟩) 128 cap] w λe w'=>
   e=QJ (Qg (Ws (cU (cZ λt=>jh (λi=>f (8*t+i)) 8) 80)))/\QF w.heap.size w w':=by
 have O:=UY;have D:=Qt (l 0 oo);have q:=Qh l;clear l;generalize n:(λt=>jh (λi=>f (8*t+i)) 8)=F;have r:=Qh n;clear n;go_enter Tryz.func171,Tryz.ntmps171;go_wp2;go_loopw [6] (λi wr=> ∃k:Nat,k<=16/\i=Qf Qc k/\Blk wr (w.heap.size+1) (Ws (cU (cZ F) k)) 146/\Blk wr w.heap.size (Ws nL) 146/\QF w.heap.size w wr) (λi _=>16-(QE i).toNat)
 case atStart=>
  refine⟨0,Nat.zero_le _,rfl,?_,?_,(bR.alloc nR _).alloc ss _⟩
  .rw[Br];exact Qy w _ _
  .exact Qx w _ _
 case round=>
  obtain⟨k,j,rfl,c,g,d⟩:=hrel;by_cases o:k<16
  .have h:=c.cell k;rw[cQ _ _ (by rw[cu];omega)]at h;have C:=c.frozen k;go_wp2_with fail;refine(W4 b (off+k*8) _ _ (λi=>f (8*k+i)) wr oo oo oo ?_).mono ?_
   .intro i M;have:=q.out (8*k+i) oo;rw[<-d.cell (p:=⟨b,off+(8*k+i),none⟩) D]at this;rw[show off+k*8+i=off+(8*k+i) by omega];exact this
   .rintro e w' ⟨rfl,rfl⟩;go_wp2;have R:=xj (B:=w.heap.size+1) (k:=k) (x:=U (jh (λi=>f (8*k+i)) 8)) oo c oo d (by rw[yC _ _ o,<-r.out]);go_roundw
    case rel=>exact⟨k+1,oo,gn,R.1,R.2.1 _ _ _ oo g,R.2.2⟩
    case measure=>simp[QE];omega
  .have s:k=16:=oo
   subst s;rw[show ((16:Nat):Int)=16 from rfl];go_wp2;go_loopw [5] (λi wr=> ∃k:Nat,16<=k/\k<=80/\i=Qf Qc k/\Blk wr (w.heap.size+1) (Ws (cU (cZ F) k)) 146/\Blk wr w.heap.size (Ws nL) 146/\QF w.heap.size w wr) (λi _=>80-(QE i).toNat)
   case atStart=>exact⟨16,oo,oo,rfl,c,g,d⟩
   case round=>
    clear c g d;obtain⟨k,E,j,rfl,c,g,d⟩:=hrel;by_cases o:k<80
    .have h:=c.cell k;rw[cQ _ _ (by rw[cu];omega)]at h;have C:=c.frozen k;have z:=c.cell (k-2);rw[cQ _ _ (by rw[cu];omega),jX _ _ _ oo j]at z;have A:=c.cell (k-7);rw[cQ _ _ (by rw[cu];omega),jX _ _ _ oo j]at A;have u:=c.cell (k-15);rw[cQ _ _ (by rw[cu];omega),jX _ _ _ oo j]at u;have y:=c.cell (k-16);rw[cQ _ _ (by rw[cu];omega),jX _ _ _ oo j]at y;have P:(k:Int)<80:=oo
     have J:(0:Int)<=(k:Int)-2/\(k:Int)-2<80/\((k:Int)-2).toNat=k-2:=oo
     have K:(0:Int)<=(k:Int)-7/\(k:Int)-7<80/\((k:Int)-7).toNat=k-7:=oo
     have H:(0:Int)<=(k:Int)-15/\(k:Int)-15<80/\((k:Int)-15).toNat=k-15:=oo
     have I:(0:Int)<=(k:Int)-16/\(k:Int)-16<80/\((k:Int)-16).toNat=k-16:=oo
     obtain⟨ad,ag,ah⟩:=J;obtain⟨an,ao,ap⟩:=K;obtain⟨Q,S,T⟩:=H;obtain⟨X,Z,ab⟩:=I;have j2:Qc.wrap ((k:Int)-2)=(k:Int)-2:=by rw[Qd];omega
     have j7:Qc.wrap ((k:Int)-7)=(k:Int)-7:=by rw[Qd];omega
     have ax:Qc.wrap ((k:Int)-15)=(k:Int)-15:=by rw[Qd];omega
     have ay:Qc.wrap ((k:Int)-16)=(k:Int)-16:=by rw[Qd];omega
     have l2:(2:Int)<=(k:Int):=oo
     have l7:(7:Int)<=(k:Int):=oo
     have az:(15:Int)<=(k:Int):=oo
     have a0:(16:Int)<=(k:Int):=oo
     have q2:∀(a:Qj) (v:Qo),(a.setCell ⟨w.heap.size+1,k,none⟩ v).cell? ⟨w.heap.size+1,k-2,none⟩=a.cell? ⟨w.heap.size+1,k-2,none⟩:=λa v=>mi _ _ _ _ _ oo
     have q7:∀(a:Qj) (v:Qo),(a.setCell ⟨w.heap.size+1,k,none⟩ v).cell? ⟨w.heap.size+1,k-7,none⟩=a.cell? ⟨w.heap.size+1,k-7,none⟩:=λa v=>mi _ _ _ _ _ oo
     have a1:∀(a:Qj) (v:Qo),(a.setCell ⟨w.heap.size+1,k,none⟩ v).cell? ⟨w.heap.size+1,k-15,none⟩=a.cell? ⟨w.heap.size+1,k-15,none⟩:=λa v=>mi _ _ _ _ _ oo
     have a2:∀(a:Qj) (v:Qo),(a.setCell ⟨w.heap.size+1,k,none⟩ v).cell? ⟨w.heap.size+1,k-16,none⟩=a.cell? ⟨w.heap.size+1,k-16,none⟩:=λa v=>mi _ _ _ _ _ oo
     go_wp2_with fail;go_region_held3 (λw'=>w'.cell? ⟨w.heap.size+1,k-2,none⟩=some (Qf Qa (U (cZ F (k-2))))/\w'.cell? ⟨w.heap.size+1,k-7,none⟩=some (Qf Qa (U (cZ F (k-7))))/\w'.cell? ⟨w.heap.size+1,k-15,none⟩=some (Qf Qa (U (cZ F (k-15))))/\w'.cell? ⟨w.heap.size+1,k-16,none⟩=some (Qf Qa (U (cZ F (k-16))))) (go_keep)
      (first|(go_at_call 211;refine(Nk _ _).mono ?_;rintro e w' ⟨rfl,rfl⟩)|(go_at_call 212;refine(Ms _ _).mono ?_;rintro e w' ⟨rfl,rfl⟩))
     all_goals
      go_wp2;have R:=xj (w:=w) (wr:=wr) (B:=w.heap.size+1) (k:=k) (W:=cZ F) (x:=Qa.wrap (Qa.wrap (Qa.wrap (U (Bp (cZ F (k-2)))+U (cZ F (k-7)))+U (Bq (cZ F (k-15))))+U (cZ F (k-16)))) oo c oo d (by rw[eW,eW,eW,yD F k E]);go_roundw
      case rel=>exact⟨k+1,oo,oo,gn,R.1,R.2.1 _ _ _ oo g,R.2.2.drew⟩
      case measure=>simp[QE];omega
    .have G:k=80:=oo
     subst G;have m:=g;have h:=c;unfold Blk at m h;go_wp2_with (first
      |(refine wpList_load_row rfl 146 _ rfl (w.heap.size+1) rfl 146 _ (0,0) _ h QC rfl (by rw[dA,cu];exact Tryz.info80) ?_)
      |(refine wpList_store_row rfl 146 _ _ rfl w.heap.size _ rfl rfl 146 _ m (by rw[dA,cu];exact Tryz.info80) (by rw[dA,dA,cu];rfl) (aZ _) ?_))
     refine Qk (v:=Qg (Ws (cU (cZ F) 80))) ?_ rfl ⟨rfl,Qm d nR _⟩;exact Qq rfl _ _ w.heap.size 146 _ (0,0) _ rfl (g.row _) QC rfl (by rw[dA,cu];exact Tryz.info80)
structure Sha_St where
 (a b c d e f g h:BitVec 64)
def Fz(k w:BitVec 64)(s:Sha_St):Sha_St:=
 let x:=s.h+FC s.e+zp s.e s.f s.g+k+w
 let y:=KQ s.a+Bw s.a s.b s.c
 ⟨x+y,s.a,s.b,s.c,s.d+x,s.e,s.f,s.g⟩
def cq(K W:Nat->BitVec 64)(s:Sha_St):Nat->Sha_St
 |0=>s
 |n+1=>Fz (K n) (W n) (cq K W s n)
def Sha_St.list(s:Sha_St):List (BitVec 64):=[s.a,s.b,s.c,s.d,s.e,s.f,s.g,s.h]
def Sha_St.plus(s t:Sha_St):Sha_St:=⟨s.a+t.a,s.b+t.b,s.c+t.c,s.d+t.d,s.e+t.e,s.f+t.f,s.g+t.g,s.h+t.h⟩
def Tab(K:Nat->BitVec 64)(w:Qj):Prop:= ∀i,i<80->w.cell? ⟨0,i,none⟩=some (Qf Qa (U (K i)))
theorem Tab.lt{K:Nat->BitVec 64}{w:Qj}(h:Tab K w):0<w.heap.size:=Qt (h 0 oo)
theorem Tab.below{K:Nat->BitVec 64}{w w':Qj}(h:Tab K w)(a:QF w.heap.size w w'):Tab K w':=λi b=>by
 rw[a.cell (p:=⟨0,i,none⟩) h.lt];exact h i b
def kt(s T:Sha_St)(k:Nat):List (BitVec 64):=(s.plus T).list.take k++s.list.drop k
theorem G8(s T:Sha_St)(k:Nat)(a:k<=8):(kt s T k).length=8:=by
 simp[kt,Sha_St.list];omega
theorem Ej(s T:Sha_St)(k:Nat)(a:k<8):(kt s T k).getD k 0=s.list.getD k 0/\k<(kt s T k).length:=by
 refine⟨?_,by rw[G8 _ _ _ oo];exact a⟩;obtain rfl|rfl|rfl|rfl|rfl|rfl|rfl|rfl:k=0\/k=1\/k=2\/k=3\/k=4\/k=5\/k=6\/k=7:=oo
 all_goals rfl
theorem Dm(s T:Sha_St)(k:Nat)(a:k<8):(kt s T k).set k (s.list.getD k 0+T.list.getD k 0)=kt s T (k+1):=by
 match k,a with
 |0,_=>rfl
 |1,_=>rfl
 |2,_=>rfl
 |3,_=>rfl
 |4,_=>rfl
 |5,_=>rfl
 |6,_=>rfl
 |7,_=>rfl
theorem Vw(T:Sha_St)(k:Nat)(a:k<8)(w:Qj):
  (Instr.index 101 (Qg #[Qf Qa (U T.a),Qf Qa (U T.b),Qf Qa (U T.c),Qf Qa (U T.d),Qf Qa (U T.e),Qf Qa (U T.f),Qf Qa (U T.g),Qf Qa (U T.h)]) (Qf Qc k)).run QB w=.ok (Qf Qa (U (T.list.getD k 0))) w:=by
 obtain rfl|rfl|rfl|rfl|rfl|rfl|rfl|rfl:k=0\/k=1\/k=2\/k=3\/k=4\/k=5\/k=6\/k=7:=oo
 all_goals kernel_rfl
theorem Tryz.info8:(QB.info? 101).map (·.size)=some 8:=kr
theorem GQ:Ty 101 8:=⟨_,QD,rfl,Tryz.info8⟩
theorem acn(K W:Nat->BitVec 64)(s:Sha_St)(k:Nat):Qa.wrap (U (cq K W s k).d+Qa.wrap (Qa.wrap (Qa.wrap (Qa.wrap (U (cq K W s k).h+U (FC (cq K W s k).e))+
  U (zp (cq K W s k).e (cq K W s k).f (cq K W s k).g))+U (K k))+U (W k)))=U (cq K W s (k+1)).e:=by
 rw[eW,eW,eW,eW,eW];rfl
theorem aco(K W:Nat->BitVec 64)(s:Sha_St)(k:Nat):Qa.wrap (Qa.wrap (Qa.wrap (Qa.wrap (Qa.wrap (U (cq K W s k).h+U (FC (cq K W s k).e))+
  U (zp (cq K W s k).e (cq K W s k).f (cq K W s k).g))+U (K k))+U (W k))+Qa.wrap (U (KQ (cq K W s k).a)+U (Bw (cq K W s k).a (cq K W s k).b (cq K W s k).c)))=U (cq K W s (k+1)).a:=by
 rw[eW,eW,eW,eW,eW,eW];rfl
theorem Xg(K W:Nat->BitVec 64)(s:Sha_St)(w:Qj)(L:Tab K w):
  Qp QB 170 #[Qg (Ws s.list),Qg (Ws (cU W 80))] w λe w'=>
   e=QJ (Qg (Ws (s.plus (cq K W s 80)).list))/\QF w.heap.size w w':=by
 generalize y:cq K W s 80=T;have B:=Qh y;clear y;have ab:(Ws s.list).size=8:=by rw[dA];rfl
 have ad:(Ws (cU W 80)).size=80:=by rw[dA,cu]
 have j:=QI (QI (QH w (Ws s.list) 101) (QA (Ws (cU W 80)) 146)) (QA (Ws [0,0,0,0,0,0,0,0]) 101);have n:=QI (QH (w.alloc (QA (Ws s.list) 101)) (Ws (cU W 80)) 146) (QA (Ws [0,0,0,0,0,0,0,0]) 101);have l:=QH ((w.alloc (QA (Ws s.list) 101)).alloc (QA (Ws (cU W 80)) 146)) (Ws [0,0,0,0,0,0,0,0]) 101;have m:QF w.heap.size w (((w.alloc (QA (Ws s.list) 101)).alloc (QA (Ws (cU W 80)) 146)).alloc (QA (Ws [0,0,0,0,0,0,0,0]) 101)):=
  ((bR.alloc nR _).alloc ss _).alloc (by simp;omega) _
 have P:(((w.alloc (QA (Ws s.list) 101)).alloc (QA (Ws (cU W 80)) 146)).alloc (QA (Ws [0,0,0,0,0,0,0,0]) 101)).heap.size=w.heap.size+3:=ss
 rw[show (w.alloc (QA (Ws s.list) 101)).heap.size=w.heap.size+1 by simp]at n;rw[show ((w.alloc (QA (Ws s.list) 101)).alloc (QA (Ws (cU W 80)) 146)).heap.size=w.heap.size+1+1 by simp]at l;clear P;go_enter Tryz.func170,Tryz.ntmps170;go_wp2_with fail;rw[show (#[Qf Qa 0,Qf Qa 0,Qf Qa 0,Qf Qa 0,
   Qf Qa 0,Qf Qa 0,Qf Qa 0,Qf Qa 0]:Array Qo)=Ws [0,0,0,0,0,0,0,0]from rfl]
 generalize ((w.alloc (QA (Ws s.list) 101)).alloc (QA (Ws (cU W 80)) 146)).alloc (QA (Ws [0,0,0,0,0,0,0,0]) 101)=o at j n l m|-;have C:o.cell? ⟨w.heap.size,0,none⟩=some (Qf Qa (U s.a)):=j.cell 0;have D:o.cell? ⟨w.heap.size,1,none⟩=some (Qf Qa (U s.b)):=j.cell 1;have E:o.cell? ⟨w.heap.size,2,none⟩=some (Qf Qa (U s.c)):=j.cell 2;have F:o.cell? ⟨w.heap.size,3,none⟩=some (Qf Qa (U s.d)):=j.cell 3;have G:o.cell? ⟨w.heap.size,4,none⟩=some (Qf Qa (U s.e)):=j.cell 4;have H:o.cell? ⟨w.heap.size,5,none⟩=some (Qf Qa (U s.f)):=j.cell 5;have I:o.cell? ⟨w.heap.size,6,none⟩=some (Qf Qa (U s.g)):=j.cell 6;have J:o.cell? ⟨w.heap.size,7,none⟩=some (Qf Qa (U s.h)):=j.cell 7;go_quiet (fail)
 go_wp2_with fail;go_quiet (fail)
 go_wp2_with fail;clear C D E F G H I J;go_loopw [5,6,7,8,9,10,11,12,34] (λa b c d e f g h i wr=> ∃k:Nat,k<=80/\i=Qf Qc k/\a=Qf Qa (U (cq K W s k).a)/\b=Qf Qa (U (cq K W s k).b)/\c=Qf Qa (U (cq K W s k).c)/\d=Qf Qa (U (cq K W s k).d)/\e=Qf Qa (U (cq K W s k).e)/\f=Qf Qa (U (cq K W s k).f)/\g=Qf Qa (U (cq K W s k).g)/\h=Qf Qa (U (cq K W s k).h)/\
   Blk wr w.heap.size (Ws s.list) 101/\Blk wr (w.heap.size+1) (Ws (cU W 80)) 146/\Blk wr (w.heap.size+1+1) (Ws [0,0,0,0,0,0,0,0]) 101/\QF w.heap.size w wr) (λ_ _ _ _ _ _ _ _ i _=>80-(QE i).toNat)
 case atStart=>exact⟨0,oo,rfl,rfl,rfl,rfl,rfl,rfl,rfl,rfl,rfl,j,n,l,Qn (Qn m _) _⟩
 case round=>
  clear j n l m;obtain⟨k,z,rfl,rfl,rfl,rfl,rfl,rfl,rfl,rfl,rfl,j,n,l,m⟩:=hrel;by_cases p:k<80
  .have Z:=L.below m k p;have Q:=n.cell k;rw[cQ _ _ (by rw[cu];omega),jX _ _ _ oo oo]at Q;have R:(k:Int)<80:=oo
   go_wp2_with fail;go_quiet (first|(go_at_call 206;exact Calls.quiet_of_same (TC _ _))|(go_at_call 207;exact Calls.quiet_of_same (Tt _ _ _ _)))
   go_wp2_with (first|(go_at_call 208;refine(PW _ _).mono ?_;rintro e w' ⟨rfl,rfl⟩)|(go_at_call 209;refine(NC _ _ _ _).mono ?_;rintro e w' ⟨rfl,rfl⟩));go_roundw
   case rel=>exact⟨k+1,oo,gn,cH (aco K W s k),rfl,rfl,rfl,cH (acn K W s k),rfl,rfl,rfl,j.drewN _,n.drewN _,l.drewN _,Qn m _⟩
   case measure=>simp[QE];omega
  .have O:k=80:=oo
   subst O;rw[show ((80:Nat):Int)=80 from rfl];clear p z n;rw[show cq K W s 80=T from B.out];go_wp2;go_loopw [83] (λi wr=> ∃k:Nat,k<=8/\i=Qf Qc k/\Blk wr w.heap.size (Ws (kt s T k)) 101/\Blk wr (w.heap.size+1+1) (Ws [0,0,0,0,0,0,0,0]) 101/\QF w.heap.size w wr) (λi _=>8-(QE i).toNat)
   case atStart=>exact⟨0,oo,rfl,j,l,m⟩
   case round=>
    clear j l m;obtain⟨k,z,rfl,j,l,m⟩:=hrel;by_cases p:k<8
    .have X:=Vw T k p;have t:=Ej s T k p;have M:=j.cell k;rw[cQ _ _ t.2,t.1]at M;have S:=j.frozen k;clear t;have q:=Dm s T k p;simp only[QL]at q;have A:Hid ((kt s T k).set k (s.list[k]?.getD 0#64+T.list[k]?.getD 0#64)=kt s T (k+1)):=q;clear q;have R:(k:Int)<8:=oo
     go_wp2;go_roundw
     case rel=>
      refine⟨k+1,oo,gn,?_,?_,m.setCell nR _⟩
      .rw[j.set,eW,eC,show _=_ from A.out];exact j.row _
      .rw[j.set];exact l.other oo _
     case measure=>simp[QE];omega
    .have N:k=8:=oo
     subst N;have u:=j;have x:=l;unfold Blk at u x;have r:(Ws (kt s T 8)).size=8:=by rw[dA];rfl
     go_wp2_with (first
      |(refine ld GQ rfl rfl w.heap.size rfl u r ?_)
      |(refine st GQ rfl rfl (w.heap.size+1+1) rfl rfl x r rfl (aZ _) ?_))
     refine Qk (v:=Qg (Ws (kt s T 8))) ?_ rfl ⟨rfl,Qm m oo _⟩;exact rr GQ rfl rfl (l.row _) r
def Sha_first:Sha_St:=⟨7640891576956012808,13503953896175478587,4354685564936845355,11912009170470909681,5840696475078001361,11170449401992604703,2270897969802886507,6620516959819538809⟩
theorem NF:(#[Qf Qa 7640891576956012808,Qf Qa 13503953896175478587,Qf Qa 4354685564936845355,Qf Qa 11912009170470909681,Qf Qa 5840696475078001361,Qf Qa 11170449401992604703,Qf Qa 2270897969802886507,Qf Qa 6620516959819538809]:Array Qo)=Ws Sha_first.list:=kr
theorem Hu(w:Qj):
  Qp QB 168 #[] w λe w'=>e=QJ (Qg (Ws Sha_first.list))/\w'=w.alloc (QA (Ws Sha_first.list) 101):=by
 go_enter Tryz.func168,Tryz.ntmps168;go_wp2;rw[NF];refine Qk (v:=Qg (Ws Sha_first.list)) ?_ rfl ⟨rfl,rfl⟩;exact Qq rfl _ _ w.heap.size 101 _ (0,0) _ rfl (QH w _ _) QD rfl (by rw[dA];exact Tryz.info8)
def iV(s:Sha_St):Nat->List UInt8
 |0=>aq 64
 |k+1=>kz (iV s k) (k*8) (s.list.getD k 0) 8
theorem pV(s:Sha_St)(k:Nat):(iV s k).length=64:=by
 induction k with
 |zero=>rfl
 |succ k a=>simp only[iV,qr,a]
theorem Xc(s:Sha_St)(w:Qj):
  Rw 172 #[Qg (Ws s.list)] w (.string ⟨(iV s 8).toArray⟩):=by
 have l:(Ws s.list).size=8:=by rw[dA];rfl
 have j:=Lw 64 oo;rw[show ((64:Nat):Int)=64 from rfl]at j;have c:=Qx w (QA (Ws s.list) 101) (QA (Bs (aq 64)) 5);have d:Blk ((w.alloc (QA (Ws s.list) 101)).alloc (QA (Bs (aq 64)) 5)) (w.heap.size+1) (Bs (aq 64)) 5:=Qy w _ _;have a:QF w.heap.size w ((w.alloc (QA (Ws s.list) 101)).alloc (QA (Bs (aq 64)) 5)):=(bR.alloc nR _).alloc ss _;have g:=Qh c;clear c;go_enter Tryz.func172,Tryz.ntmps172;go_wp2_with (refine ld GQ rfl rfl w.heap.size rfl g.out l ?_);go_loopw [8] (λi wr=> ∃k:Nat,k<=8/\i=Qf Qc k/\Blk wr (w.heap.size+1) (Bs (iV s k)) 5/\QF w.heap.size w wr) (λi _=>8-(QE i).toNat)
 case atStart=>exact⟨0,oo,rfl,d,a⟩
 case round=>
  clear d a;obtain⟨k,n,rfl,b,a⟩:=hrel;by_cases h:k<8
  .have m:∀f,(Instr.index 101 (Qg (Ws s.list)) (Qf Qc k)).run QB f=.ok (Qf Qa (U (s.list.getD k 0))) f:=Vw s k h
   have p:(k:Int)<8:=oo
   go_wp2_with fail;refine(AN (w.heap.size+1) (k*8) _ _ 5 (iV s k) (s.list[k]?.getD 0#64) wr oo oo oo b (by rw[pV];omega)).mono ?_;rintro e w' ⟨rfl,rfl⟩;go_wp2;go_roundw
   case rel=>
    refine⟨k+1,oo,gn,?_,Qm a oo _⟩;have:=b.row (Bs (kz (iV s k) (k*8) (s.list[k]?.getD 0#64) 8));rw[show iV s (k+1)=kz (iV s k) (k*8) (s.list[k]?.getD 0#64) 8 by rw[iV,QL];rfl];exact this
   case measure=>simp[QE];omega
  .have:k=8:=oo
   subst this;have o:=gc (cap:=64) b 64 (pV s 8).symm;go_wp2;go_ret;exact⟨rfl,a⟩
def cg(n:Nat):Nat:=n+17+(128-(n+17)%128)%128
theorem oI(n:Nat):n+17<=cg n/\cg n<n+145/\cg n%128=0:=by unfold cg;omega
def wQ(l:List UInt8):List UInt8:=(l++aq (cg l.length-l.length)).set l.length 128
def kA(l:List UInt8):List UInt8:=
 kz (kz (wQ l) (cg l.length-16) (Qz 64 l.length>>>61) 8) (cg l.length-8) (Qz 64 l.length<<<3) 8
theorem Iw(l:Qu):(wQ l).length=cg l.length:=by
 have:=oI l.length;simp[wQ,fD];omega
theorem Bu(l:Qu):(kA l).length=cg l.length:=by
 simp[kA,qr,Iw]
theorem ZG(s:Qb)(w:Qj)(y:s.size<=140737488351232):
  Qp QB 169 #[.string s] w λe w'=>e=QJ (Qi (some ⟨w.heap.size,0,none⟩) (cg s.size) (cg s.size))/\w'=w.alloc (QA (Bs (kA s.data.toList)) 5):=by
 have n:=oI s.size;have q:((s.size:Int)+1+16+ -(((s.size:Int)+1+16)%128)%128)=(cg s.size:Int):=by unfold cg;omega
 have r:s.data.toList.length=s.size:=ss
 have o:kA s.data.toList=kz (kz ((s.data.toList++aq (cg s.size-s.size)).set s.size 128) (cg s.size-16) (Qz 64 s.size>>>61) 8) (cg s.size-8) (Qz 64 s.size<<<3) 8:=by
  unfold kA wQ;rw[r]
 rw[o];clear o;generalize cg s.size=N at n q|-;obtain⟨t,u,v⟩:=n;have x:=Lw N oo;have m:=Lib.run_copy_row_string (P:=QB) (w.alloc (QA (Bs (aq N)) 5)) 55 9 3 5 w.heap.size 0 N N s (Bs (aq N)) 5 Tryz.underlying55 Tryz.infoByte1 (heap_alloc_new w _) oo (by rw[rY,fD];omega);rw[NV s N,QG]at m;have l:(s.data.toList++aq (N-s.size)).length=N:=by simp[fD];omega
 generalize s.data.toList++aq (N-s.size)=a at m l|-;have z:(Bs a)[s.size]? =some (Qf .u8 ((a.getD s.size 0).toNat:Int)):=pY _ _ oo;have h:=tn a s.size 128;rw[show (((128:UInt8).toNat:Nat):Int)=128 from rfl]at h;have p:(a.set s.size 128).length=N:=by rw[List.length_set,l]
 generalize a.set s.size 128=f at h p|-;have i:(s.size:Int)/2305843009213693952=U (Qz 64 s.size>>>61):=by
  rw[<-vq,<-wK s.size oo];rfl
 have j:Qa.wrap ((s.size:Int)*8)=U (Qz 64 s.size<<<3):=by
  rw[<-Aa,<-wK s.size oo];rfl
 have k:(s.size:Int)*8=U (Qz 64 s.size<<<3):=by
  rw[<-j,Qe];omega
 have c:=Qh i;have d:=Qh k;clear i j k;generalize Qz 64 s.size>>>61=b at c|-;generalize Qz 64 s.size<<<3=g at d|-;go_enter Tryz.func169,Tryz.ntmps169;go_wp2_with fail;rw[show (s.size:Int)/2305843009213693952=U b from c.out];refine(AN w.heap.size (N-16) _ _ 5 f b _ oo oo oo (QH w _ _) oo).mono ?_;rintro e w' ⟨rfl,rfl⟩;rw[QG];go_wp2_with fail;rw[show (s.size:Int)*8=U g from d.out];refine(AN w.heap.size (N-8) _ _ 5 (kz f (N-16) b 8) g _ oo oo oo (QH w _ _) (by rw[qr];omega)).mono ?_;rintro e w' ⟨rfl,rfl⟩;rw[QG];go_wp2;go_ret;exact⟨rfl,rfl⟩
end Go.Proofs.YtclpbaokadfhhaaGreatDoor
