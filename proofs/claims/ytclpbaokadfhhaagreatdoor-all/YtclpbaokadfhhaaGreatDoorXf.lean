import Derived.Test.YtclpbaokadfhhaaGreatDoorXe
import Derived.Test.YtclpbaokadfhhaaGreatDoorXi
import Derived.Test.YtclpbaokadfhhaaGreatDoorXl
set_option maxRecDepth 100000
set_option maxHeartbeats 8000000
open Go.Value renaming string->Qa,int->Qc,agg->Qd,bool->Qe,tuple->Qf
open Go.IntKind renaming u64->Qg,i64->Qi,wrap_u64->Qj,wrap_i64->Qk
open Go.Proofs.Tryz renaming prog->Qm,ntmps15->Qn,func15->Qo,underlying69->Qp
open Go.Obj renaming cells->Qq
open List renaming not_mem_nil->Qt,mem_cons->Qx
open Go renaming World->Qy,run_build->Qz,below_setRow->QA
open BitVec renaming toNat_ofNat->QB,ofNat->QC
open Go.Instr renaming build->QD
namespace Go.Proofs.YtclpbaokadfhhaaGreatDoor
open Go.RowKit
def yi(x:UInt8)(r:Nat):BitVec 64:=QC 64 (x.toNat/2^r%2)
theorem XM(x:UInt8)(r:Nat):bits BinOp.and Qg (Qg.wrap ((x.toNat:Int)/2^r)) 1=U (yi x r):=by
 have e:x.toNat/2^r<256:=Nat.lt_of_le_of_lt (Nat.div_le_self _ _) x.toNat_lt;have a:(x.toNat:Int)/2^r=((x.toNat/2^r:Nat):Int):=ss
 unfold yi;rw[a];generalize x.toNat/2^r=n at e;have b:Qg.wrap (n:Int)=(n:Int):=by rw[Qj];omega
 rw[b];have c:=wK n oo;have d:(1:Int)=U 1:=rfl;rw[c,d,nK];unfold U;congr 1
 rw[BitVec.toNat_and,QB,QB,Nat.mod_eq_of_lt oo,Nat.mod_eq_of_lt oo];show n&&&1=n%2
 exact Nat.and_one_is_mod n
structure Lad where
 a:List (BitVec 64)
 b:List (BitVec 64)
 c:List (BitVec 64)
 d:List (BitVec 64)
def Lad.ok(s:Lad):Prop:=s.a.length=5/\s.b.length=5/\s.c.length=5/\s.d.length=5
def Lad.flat(s:Lad):List (BitVec 64):=lad s.a s.b s.c s.d
def Lad.swap(s:Lad)(bit:BitVec 64):Lad:=⟨(aY bit s.a s.c).1,(aY bit s.b s.d).1,(aY bit s.a s.c).2,(aY bit s.b s.d).2⟩
def Lad.step(V:List (BitVec 64))(s:Lad):Lad:=⟨nu s.a s.b,nt s.a s.b,nr s.a s.b s.c s.d,no s.a s.b s.c s.d V⟩
theorem Lad.swap_ok{s:Lad}(h:s.ok)(a:Qv):(s.swap a).ok:=by
 obtain⟨b,h2,c,d⟩:=h;refine⟨?_,?_,?_,?_⟩
 .show(bC (-a) s.a s.c 5).1.length=5
  rw[(dg _ _ _ _).1,b]
 .show(bC (-a) s.b s.d 5).1.length=5
  rw[(dg _ _ _ _).1,h2]
 .show(bC (-a) s.a s.c 5).2.length=5
  rw[(dg _ _ _ _).2,c]
 .show(bC (-a) s.b s.d 5).2.length=5
  rw[(dg _ _ _ _).2,d]
theorem Nj(A B:Ql):(nu A B).length=5:=by unfold nu;exact aw _ _
theorem Ni(A B:Ql):(nt A B).length=5:=by unfold nt;exact aw _ _
theorem Nh(A B C D:Ql):(nr A B C D).length=5:=by unfold nr;exact aw _ _
theorem Ng(A B C D V:Ql):(no A B C D V).length=5:=by unfold no;exact aw _ _
theorem Lad.step_ok(V:Ql)(s:Lad):(s.step V).ok:=by
 unfold Lad.step Lad.ok;dsimp only;exact⟨Nj s.a s.b,Ni s.a s.b,Nh s.a s.b s.c s.d,Ng s.a s.b s.c s.d V⟩
theorem Lad.flat_length{s:Lad}(h:s.ok):s.flat.length=20:=qX h.1 h.2.1 h.2.2.1 h.2.2.2
def Lad.first(V:List (BitVec 64)):Lad:=⟨[1,0,0,0,0],[0,0,0,0,0],V,[1,0,0,0,0]⟩
def Lad.to(key:List UInt8)(V:List (BitVec 64)):Nat->Lad
 |0=>Lad.first V
 |n+1=>(((Lad.to key V n).swap (yi (key.getD ((254-n)/8) 0) ((254-n)%8))).step V).swap (yi (key.getD ((254-n)/8) 0) ((254-n)%8))
theorem Lad.to_ok(b:Qu)(V:Ql)(a:V.length=5):∀n,(Lad.to b V n).ok
 |0=>⟨rfl,rfl,a,rfl⟩
 |_+1=>Lad.swap_ok (Lad.step_ok _ _) _
def pO(secret:List UInt8)(V:List (BitVec 64)):List UInt8:=
 fv (aa (Lad.to (eV secret) V 255).a (bN (Lad.to (eV secret) V 255).b))
theorem W2{s:Lad}(h:s.ok)(a:Qv)(w:Qy):
  Rw 109 #[Qd (Ws s.flat),Qc Qg (U a)] w (Qd (Ws (s.swap a).flat)):=by
 have:=W1 s.a s.b s.c s.d a w h.1 h.2.1 h.2.2.1 h.2.2.2;unfold Lad.flat Lad.swap;dsimp only;exact this
theorem ack{s:Lad}(h:s.ok)(V:Ql)(a:V.length=5)(w:Qy):
  Rw 110 #[Qd (Ws s.flat),Qd (Ws V)] w (Qd (Ws (s.step V).flat)):=by
 have:=W3 s.a s.b s.c s.d V w h.1 h.2.1 h.2.2.1 h.2.2.2 a;unfold Lad.flat Lad.step;dsimp only;exact this
theorem TA(V:Ql)(a:V.length=5)(w:Qy):
  (QD 115 #[(0,Qd #[Qc Qg 1,Qc Qg 0,Qc Qg 0,Qc Qg 0,Qc Qg 0]),(2,Qd (Ws V)),(3,Qd #[Qc Qg 1,Qc Qg 0,Qc Qg 0,Qc Qg 0,Qc Qg 0])]).run Qm w=.ok (Qd (Ws (Lad.first V).flat)) w:=by
 obtain⟨b,c,d,e,f,rfl⟩:=bH V a;exact Qz w _ _ _ kr
theorem XK(w:Qy):(QD 69 #[(0,Qc Qg 1)]).run Qm w=.ok (Qd #[Qc Qg 1,Qc Qg 0,Qc Qg 0,Qc Qg 0,Qc Qg 0]) w:=Qz w _ _ _ kr
theorem Fm(s:Qb)(V:Ql)(w:Qy)(hs:s.size=32)(M:V.length=5):
  Rw 50 #[Qa s,Qd (Ws V)] w (Qa ⟨(pO s.data.toList V).toArray⟩):=by
 have hz:=M7;have sV:=Wz M;have bh:s.data.toList.length=32:=by rw[<-hs];simp
 have W:=Qr λk=>GK s k hs
 have HR:=Qh (p:=pO s.data.toList V=fv (aa (Lad.to (eV s.data.toList) V 255).a (bN (Lad.to (eV s.data.toList) V 255).b))) rfl
 generalize pO s.data.toList V=R at HR|-;have a7:(eV s.data.toList).length=32:=by rw[wH,bh]
 generalize eV s.data.toList=g at W HR a7;have bd:(⟨g.toArray⟩:ByteArray).size=32:=a7;have a6:(⟨g.toArray⟩:ByteArray).data.toList=g:=rfl;generalize (⟨g.toArray⟩:ByteArray)=ks at W bd a6;have B2:=Qh (TA V M);have an:(Lad.first V).flat.length=20:=Lad.flat_length (Lad.to_ok g V M 0);have ab:=Wz an;have sZ:(lad [0,0,0,0,0] [0,0,0,0,0] [0,0,0,0,0] [0,0,0,0,0]).length=20:=rfl;generalize lad [0,0,0,0,0] [0,0,0,0,0] [0,0,0,0,0] [0,0,0,0,0]=q at hz sZ;have ba:=Wz sZ;generalize Z:(Lad.first V).flat=P at B2 an ab;replace Z:=Qh Z;have y:Blk (w.alloc (Qq (Ws V) 69)) w.heap.size (Ws V) 69:=Blk.new w _ _;have G:Below w.heap.size w (w.alloc (Qq (Ws V) 69)):=bR.alloc nR _;go_enter Tryz.func50,Tryz.ntmps50;go_wp2_with fail;generalize w.alloc (Qq (Ws V) 69)=w1 at y G|-;refine gv W λj k2=>?_
 clear W;replace y:=y.keep k2;replace G:=G.trans (k2.mono G.size);clear k2;have g1:=y;unfold Blk at g1;have bi:=y.lt;have g2:(j.alloc (Qq (Ws q) 115)).heap[j.heap.size]? =some (Qq (Ws q) 115 (0,0)):=Blk.new j _ _;have a5:Blk (j.alloc (Qq (Ws q) 115)) j.heap.size (Ws q) 115:=Blk.new j _ _;have a4:=y.alloc (Qq (Ws q) 115);have ag:Below w.heap.size w (j.alloc (Qq (Ws q) 115)):=G.alloc oo _;go_wp2_with (first
  |(refine vb rfl 69 _ rfl [(0,Qc Qg 1)] rfl _ (XK _) ?_)
  |(refine vb rfl 115 _ rfl [(0,Qd #[Qc Qg 1,Qc Qg 0,Qc Qg 0,Qc Qg 0,Qc Qg 0]),(2,Qd (Ws V)),(3,Qd #[Qc Qg 1,Qc Qg 0,Qc Qg 0,Qc Qg 0,Qc Qg 0])] rfl _ (B2.out _) ?_)
  |(refine ld t69 rfl rfl w.heap.size rfl g1 sV ?_)
  |(refine wpList_store_row rfl 115 _ _ rfl j.heap.size _ rfl rfl 115 _ g2 (by rw[ab];exact Tryz.infoL20) (by rw[ab,ba]) (aZ _) ?_))
 have m:WS w w.heap.size [(j.heap.size,Ws P,115),(w.heap.size,Ws V,69)] ((j.alloc (Qq (Ws q) 115)).setRow j.heap.size (Ws P)):=by
  refine⟨?_,QA ag oo _,?_,?_⟩
  .intro x r;simp only[Qx,Qt,or_false]at r;rcases r with rfl|rfl
   .exact a5.row _
   .exact a4.other oo _
  .have:=(QA ag (show w.heap.size<=j.heap.size by omega) (Ws P)).size;exact this
  .intro x r;simp only[Qx,Qt,or_false]at r;rcases r with rfl|rfl
   .dsimp only;omega
   .dsimp only;omega
 clear g1 g2 y a5 a4 G ag hz B2 an ab sZ ba;generalize (j.alloc (Qq (Ws q) 115)).setRow j.heap.size (Ws P)=w3 at m|-;rw[<-Z.out]at m;clear Z;generalize j.heap.size=p at m bi|-;go_loopw [7] (λc wr=> ∃n:Nat,n<=255/\c=Qc Qi (254-(n:Int))/\WS w w.heap.size [(p,Ws (Lad.to g V n).flat,115),(w.heap.size,Ws V,69)] wr) (λc _=>((intOf c)+1).toNat)
 case atStart=>exact⟨0,oo,rfl,m⟩
 case round=>
  clear m;obtain⟨n,hn,rfl,m⟩:=hrel;have z:=Lad.to_ok g V M n;by_cases bz:n<255
  .have F:=Qh (p:=Lad.to g V (n+1)=(((Lad.to g V n).swap (yi (g.getD ((254-n)/8) 0) ((254-n)%8))).step V).swap (yi (g.getD ((254-n)/8) 0) ((254-n)%8))) (by rw[Lad.to])
   obtain⟨e,a3⟩:∃e:Nat,e=254-n:=⟨_,rfl⟩
   rw[<-a3]at F;have N:(254-(n:Int))=(e:Int):=oo
   rw[N];have bx:e<=254:=oo
   clear a3;replace N:=Qh N;have az:=Cl ks (e/8) oo;rw[a6]at az;have bb:∀k:Qy,(Instr.index 9 (Qa ks) (Qc Qi ((e:Int)/8))).run Qm k=.ok (Qc .u8 ((g.getD (e/8) 0).toNat:Int)) k:=by
    intro k;have:((e:Int)/8)=((e/8:Nat):Int):=oo
    rw[this];exact az k
   have a2:=XM (g.getD (e/8) 0) (e%8);generalize g.getD (e/8) 0=x at az bb a2 F;generalize yi x (e%8)=o at a2 F;have i1:Qi.wrap ((e:Int)/8)=((e/8:Nat):Int):=by rw[Qk];omega
   have i2:(e:Int).tmod 8=((e%8:Nat):Int):=by rw[Int.tmod_eq_emod_of_nonneg oo];omega
   have i3:(0:Int)<=(e:Int):=oo
   have i4:((e%8:Nat):Int)<8:=oo
   generalize hQ:Lad.to g V n=Q at m z F;replace hQ:=Qh hQ;have a8:=Lad.swap_ok z o;have a1:=Lad.step_ok V (Q.swap o);have a9:=Lad.swap_ok a1 o;have T:=Qr (W2 z o)
   have J:=Qr (ack a8 V M)
   have L:=Qr (W2 a1 o)
   have sQ:(Ws Q.flat).size=20:=by rw[dA,Lad.flat_length z]
   have ad:=Lad.flat_length a9;generalize ((Q.swap o).step V).swap o=Q4 at F L a9 ad;generalize (Q.swap o).step V=Q3 at J L a1;generalize Q.swap o=Q2 at T J a8;have lQ:=Lad.flat_length z;generalize a0:Q4.flat=O at L ad;replace a0:=Qh a0;generalize Q3.flat=F3 at J L;generalize Q2.flat=F2 at T J;generalize Q.flat=F1 at T m sQ lQ;have b5:=Wz ad;have bs:=N;clear N;go_wp2_with fail;refine bu (S:=WS w (w.heap.size) [(p,Ws F1,115),(w.heap.size,Ws V,69)]) (ls:=[7]) kr ?_;have t:=m.drew;clear m;generalize World.drew wr=rd at t|-;refine ar 0 28 Xe (λ_ h=>h.get 0 rfl) sQ t ?_;refine ae 1 29 t ?_;refine ar 3 31 t69 (λ_ h=>h.get 1 rfl) sV t ?_;refine ae 5 33 t ?_;simp only[qQ];refine aF 2 λK d=>?_
   go_simp;go_wp2_with (go_at_call 109;refine gv T λb2 f=>?_);have ao:=t.keep f;refine d.out _ _ ao ?_;clear d K f t;refine aF 4 λK d=>?_
   go_simp;go_wp2_with (go_at_call 110;refine gv J λb3 f=>?_);have H:=ao.keep f;refine d.out _ _ H ?_;clear d K f ao;refine aF 6 λK d=>?_
   go_simp;go_wp2_with (go_at_call 109;refine gv L λbt f=>?_);have I:=H.keep f;refine d.out _ _ I ?_;clear d K f H;refine eF 7 λK d=>?_
   have bq:=de (l:=O) (I.get 0 rfl) (by rw[sQ,ad]);go_simp;refine d.out _ _ ?_;clear d K bq;replace I:=I.upd (p) (Ws O) 115 [(p,Ws O,115),(w.heap.size,Ws V,69)] ⟨_,mG (i:=0) rfl⟩ (by intro x r;simp only[Qx,Qt,or_false]at r;rcases r with rfl|rfl<;>first|exact Or.inl rfl|exact Or.inr ⟨ss,by dsimp only;omega⟩);generalize bt.setRow (p) (Ws O)=b4 at I|-;refine aC ?_;go_wp2;go_roundw
   case rel=>
    refine⟨n+1,oo,?_,?_⟩
    .have:=bs.out;congr 1
     omega
    .rw[F.out,a0.out];exact I
   case measure=>
    simp[intOf]
  .have bk:n=255:=oo
   subst bk;have E:=HR.out;generalize Lad.to g V 255=Q at m z E;obtain⟨A,B,C,D⟩:=Q;obtain⟨X,hB,hC,hD⟩:=z;dsimp only at X hB hC hD E;have H:WS w w.heap.size [(p,Ws (lad A B C D),115),(w.heap.size,Ws V,69)] wr:=m;clear m;have sA:=Wz X;have sB:=Wz hB;have hI:=tP B;have J1:=Qr λk=>Fe B k hB
   have J2:=Qr λk=>eE A _ k X hI
   have hT:=aw A (bN B);have J3:=Qr λk=>Lh _ k hT
   generalize fv (aa A (bN B))=RB at J3 E;generalize aa A (bN B)=TB at J2 J3 hT;generalize bN B=IB at J1 J2 hI;replace E:=Qh E;have bX:¬(0:Int)<=254-((255:Nat):Int):=oo
   go_wp2_with fail;refine bu (S:=WS w (w.heap.size) [(p,Ws (lad A B C D),115),(w.heap.size,Ws V,69)]) (ls:=[]) kr ?_;have u:=H.drew;clear H;generalize World.drew wr=qd at u|-;refine ae 0 35 u ?_;refine ac 1 36 (v:=Qd (Ws A)) u ?_ ?_
   .exact λk ah=>jV 69 _ rfl p 0 rfl (Ws A) _ (Tn (ah.get 0 rfl)) Qp rfl (by rw[sA];exact Tryz.infoF5)
   refine ae 2 37 u ?_;refine ac 3 38 (v:=Qd (Ws B)) u ?_ ?_
   .exact λk ah=>jV 69 _ rfl p 5 rfl (Ws B) _ (Tm (ah.get 0 rfl) X) Qp rfl (by rw[sB];exact Tryz.infoF5)
   simp only[qQ];refine aF 4 λK d=>?_
   go_simp;go_wp2_with (go_at_call 112;refine gv J1 λbY f=>?_);have ap:=u.keep f;refine d.out _ _ ap ?_;clear d K f u;refine aF 5 λK d=>?_
   go_simp;go_wp2_with (go_at_call 111;refine gv J2 λb0 f=>?_);have ax:=ap.keep f;refine d.out _ _ ax ?_;clear d K f ap;refine aF 6 λK d=>?_
   go_simp;go_wp2_with (go_at_call 58;refine gv J3 λb1 f=>?_);have ay:=ax.keep f;refine d.out _ _ ay ?_;clear d K f ax;refine ae 7 4 (v:=Qa ⟨RB.toArray⟩) ay ?_;simp only[qQ];refine aC ?_;go_wp2;go_ret;exact⟨by rw[E.out];rfl,ay.below⟩
theorem Vn(s:Qu):(ej s).length=5:=rfl
theorem Tv:fv [0,0,0,0,0]=aq 32:=dk
theorem VF(w:Qy):(QD 69 #[]).run Qm w=.ok (Qd (Ws [0,0,0,0,0])) w:=Qz w _ _ _ kr
def ix(secret point:List UInt8):List UInt8:=pO secret (ej point)
theorem zl(s p:Qb)(w:Qy)(k:s.size=32)(j:p.size=32):
  Rw 29 #[Qa s,Qa p] w (Qf #[Qa ⟨(ix s.data.toList p.data.toList).toArray⟩,Qe (!(ix s.data.toList p.data.toList==aq 32))]):=by
 have d:=Qr λa=>aci p a j
 have b:Hid (Rv 50 #[Qa s,Qd (Ws (ej p.data.toList))] (Qa ⟨(ix s.data.toList p.data.toList).toArray⟩)):=λa=>Fm s _ a k (Vn _)
 have e:=Qr λa=>by
  have:=Lh [0,0,0,0,0] a rfl;rw[Tv]at this;exact this
 generalize ix s.data.toList p.data.toList=R at b|-;generalize ej p.data.toList=V at d b;generalize h:aq 32=Z at e|-;replace h:=Qh h;go_enter Tryz.func29,Tryz.ntmps29;go_wp2_with fail;refine gv d λl c=>?_
 go_wp2_with fail;refine gv b λm g=>?_
 have f:=c.trans (g.mono c.size);clear c g;go_wp2_with (refine vb rfl 69 _ rfl [] rfl _ (VF _) ?_);refine gv e λn i=>?_
 go_wp2;go_ret2;exact⟨rfl,f.trans (i.mono f.size)⟩
def cP(s p:ByteArray):ByteArray×Int:=
 if s.size=32/\p.size=32 then(if ix s.data.toList p.data.toList=aq 32 then(⟨#[]⟩,2)else (⟨(ix s.data.toList p.data.toList).toArray⟩,0))else (⟨#[]⟩,1)
theorem W0(s p:Qb)(w:Qy)(l:s.size<=140737488351232)(k:p.size<=140737488351232):
  Rw 15 #[Qa s,Qa p] w (Qf #[Qa (cP s p).1,Qc Qi (cP s p).2]):=by
 have d:Below w.heap.size w (w.alloc (Qq (Ss [s,p]) 9)):=bR.alloc nR _;have a:=PG s p w l k;by_cases h:s.size=32/\p.size=32
 .have g:decide (¬(s.size=32/\p.size=32))=false:=by simp[h.1,h.2]
  rw[g]at a;replace a:=Qh a;have c:=Qr λn=>zl s p n h.1 h.2
  have f:cP s p=if ix s.data.toList p.data.toList=aq 32 then(⟨#[]⟩,2)else (⟨(ix s.data.toList p.data.toList).toArray⟩,0):=by unfold cP;rw[if_pos h]
  rw[f];generalize ix s.data.toList p.data.toList=R at c;clear f g;by_cases b:R=aq 32
  .have i:(!(R==aq 32))=false:=by simp[b]
   rw[i]at c;rw[if_pos b];clear i b;go_enter Qo,Qn;go_wp2_with fail;refine a.out.mono ?_;rintro e w' ⟨rfl,rfl⟩;go_wp2_with fail;refine gv c λm j=>?_
   go_wp2;go_ret2;exact⟨rfl,d.trans (j.mono d.size)⟩
  .have i:(!(R==aq 32))=true:=by simp[b]
   rw[i]at c;rw[if_neg b];clear i b;go_enter Qo,Qn;go_wp2_with fail;refine a.out.mono ?_;rintro e w' ⟨rfl,rfl⟩;go_wp2_with fail;refine gv c λm j=>?_
   go_wp2;go_ret2;exact⟨rfl,d.trans (j.mono d.size)⟩
 .have g:=decide_eq_true h;rw[g]at a;replace a:=Qh a;have f:cP s p=(⟨#[]⟩,1):=by unfold cP;rw[if_neg h]
  rw[f];clear f g h;go_enter Qo,Qn;go_wp2_with fail;refine a.out.mono ?_;rintro e w' ⟨rfl,rfl⟩;go_wp2;go_ret2;exact⟨rfl,d⟩
end Go.Proofs.YtclpbaokadfhhaaGreatDoor
