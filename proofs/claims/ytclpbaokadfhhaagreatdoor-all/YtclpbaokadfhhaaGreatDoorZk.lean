import Derived.Test.YtclpbaokadfhhaaGreatDoorZy
import Derived.Test.YtclpbaokadfhhaaGreatDoorZj
set_option maxRecDepth 100000
set_option maxHeartbeats 8000000
open Go.Value renaming string->Qa,pointer->Qc,int->Qd,tuple->Qe,bool->Qf,agg->Qg,slice->Qi
open Go.Proofs.Tryz renaming prog->Qj,ntmps48->Qk,func48->Qm,ntmps107->Qn,ntmps41->Qo,func107->Qp,func41->Qq,ntmps159->Qt,ntmps96->Qx,ntmps22->Qy,func159->Qz,func96->QA,func22->QB
open Go renaming World->QC,Calls->QD,results_none->QE,bodyPost_end->QF
open Go.IntKind renaming i64->QG,wrap_i64->QH
open Go.Ending renaming returned->QI
open Go.ByteArray renaming toList_eq->QJ
open Go.Obj renaming cells->QL
open Int renaming tmod_eq_emod_of_nonneg->QM,natCast_emod->QN,tmod->QO
open Nat renaming le_of_lt->QP,mod_lt->QQ
open Array renaming eq_empty_of_size_eq_zero->QR
namespace Go.Proofs.YtclpbaokadfhhaaGreatDoor
open Go.RowKit
structure OpV where
 k:Int
 n:Int
 a:ByteArray
 b:ByteArray
 c:ByteArray
 d:ByteArray
 p:Option Addr
 ln:Nat
 cp:Nat
def OpV.row(o:OpV):List Value:=[Qd QG o.k,Qd QG o.n,Qa o.a,Qa o.b,Qa o.c,Qa o.d,Qi o.p o.ln o.cp]
def OpV.cs(o:OpV):Array Value:=o.row.toArray
structure OpV.Ok (o:OpV):Prop where
 k0: -9223372036854775808<=o.k
 k1:o.k<=9223372036854775807
 n0: -9223372036854775808<=o.n
 n1:o.n<=9223372036854775807
 a:o.a.size<=140737488351232
 b:o.b.size<=140737488351232
 c:o.c.size<=140737488351232
 d:o.d.size<=140737488351232
theorem OpV.size(o:OpV):o.cs.size=7:=rfl
theorem Tryz.infoOp:(Qj.info? 45).map (·.size)=some 7:=kr
theorem t45:Ty 45 7:=⟨_,Tryz.underlying45,rfl,Tryz.infoOp⟩
theorem OpV.at{w:QC}{b t:Nat}{o:OpV}(h:Blk w b o.cs t):w.cell? ⟨b,0,none⟩=some (Qd QG o.k)/\w.cell? ⟨b,1,none⟩=some (Qd QG o.n)/\w.cell? ⟨b,2,none⟩=some (Qa o.a)/\w.cell? ⟨b,3,none⟩=some (Qa o.b)/\w.cell? ⟨b,4,none⟩=some (Qa o.c)/\w.cell? ⟨b,5,none⟩=some (Qa o.d):=
 ⟨h.cell 0,h.cell 1,h.cell 2,h.cell 3,h.cell 4,h.cell 5⟩
theorem Wx(o:OpV)(w:QC)(j:o.Ok)(l:Tab ai w):
  Rw 41 #[Qg o.cs] w (Qf true):=by
 have t:=Qh λk h=>UI ai o.a k j.a h
 have u:=Qr λk=>Rr o.a k (by have:=j.a;omega)
 have v:=Qh λk h=>aaH ai o.a o.b k j.a j.b h
 have x:=Qr λk=>Yw o.a o.b k (by have:=j.a;omega) (by have:=j.b;omega)
 have y:=Qh λk h=>UJ ai o.a o.b o.c o.n k j.a j.b j.c h
 have z:=Qr λk=>Rs o.a o.b o.c o.n k (by have:=j.a;omega) (by have:=j.b;omega) (by have:=j.c;omega)
 generalize (fp ai o.a).1=G at t u;generalize (fp ai o.a).2=J at t u;generalize (iz ai o.a o.b).1=H at v x;generalize (iz ai o.a o.b).2=K at v x;generalize (dZ ai o.a o.b o.c o.n).1=I at y z;generalize (dZ ai o.a o.b o.c o.n).2=L at y z;have b:Blk (w.alloc (QL o.cs 45)) w.heap.size o.cs 45:=Blk.new _ _ _;have a:Below w.heap.size w (w.alloc (QL o.cs 45)):=bR.alloc nR _;replace l:=Qh (l.below a);have F:=o.size;obtain⟨c,d,e,f,g,i⟩:=OpV.at b;generalize q:o.cs=s at b a l F c d e f g i|-;replace q:=Qh q;by_cases n:o.k=1
 .have D:(o.k==1)=true:=by rw[beq_iff_eq];exact n
  replace n:=Qh n;go_enter Qq,Qo;go_wp2_with fail;generalize w.alloc (QL s 45)=A at b a l c d e f g i|-;refine mo (t.out _ l.out) λB m=>?_;clear c d e f g i;replace b:=b.keep m;replace a:=a.trans (m.mono a.size);rw[<-q.out]at b;obtain⟨c,d,e,f,g,i⟩:=OpV.at b;go_wp2_with fail;refine gv u λC r=>?_
  replace a:=a.trans (r.mono a.size);clear c d e f g i;go_wp2;go_ret;exact⟨rfl,a⟩
 .have D:(o.k==1)=false:=by rw[beq_eq_false_iff_ne];exact n
  replace n:=Qh n;by_cases p:o.k=2
  .have E:(o.k==2)=true:=by rw[beq_iff_eq];exact p
   replace p:=Qh p;go_enter Qq,Qo;go_wp2_with fail;generalize w.alloc (QL s 45)=A at b a l c d e f g i|-;refine mo (v.out _ l.out) λB m=>?_;clear c d e f g i;replace b:=b.keep m;replace a:=a.trans (m.mono a.size);rw[<-q.out]at b;obtain⟨c,d,e,f,g,i⟩:=OpV.at b;go_wp2_with fail;refine gv x λC r=>?_
   replace a:=a.trans (r.mono a.size);clear c d e f g i;go_wp2;go_ret;exact⟨rfl,a⟩
  .have E:(o.k==2)=false:=by rw[beq_eq_false_iff_ne];exact p
   replace p:=Qh p;go_enter Qq,Qo;go_wp2_with fail;generalize w.alloc (QL s 45)=A at b a l c d e f g i|-;refine mo (y.out _ l.out) λB m=>?_;clear c d e f g i;replace b:=b.keep m;replace a:=a.trans (m.mono a.size);rw[<-q.out]at b;obtain⟨c,d,e,f,g,i⟩:=OpV.at b;go_wp2_with fail;refine gv z λC r=>?_
   replace a:=a.trans (r.mono a.size);clear c d e f g i;go_wp2;go_ret;exact⟨rfl,a⟩
theorem acg(c:Int)(n:Nat)(w:QC)(h0: -9223372036854775808<=c)(l:c<=9223372036854775807)(f:0<n)(m:n<=140737488351232):
  QD Qj 159 #[Qd QG c,Qd QG n] w λe w'=> ∃k:Nat,e=QI (Qd QG k)/\k<n/\w'=w:=by
 have o:((n:Int)==0)=false:=by rw[beq_eq_false_iff_ne];omega
 by_cases d:c<0
 .have g:=decide_eq_true d;have i:QG.wrap (c+1)=c+1:=by rw[QH];omega
  have j:QG.wrap (-(c+1))= -(c+1):=by rw[QH];omega
  have b:QO (-(c+1)) n=(((-(c+1)).toNat%n:Nat):Int):=by
   rw[QM oo];have:(-(c+1))=((-(c+1)).toNat:Int):=oo
   rw[QN,<-this]
  have a:(-(c+1)).toNat%n<n:=QQ _ f;generalize (-(c+1)).toNat%n=k at b a;have h:QG.wrap (k:Int)=k:=by rw[QH];omega
  go_enter Qz,Qt;go_wp2;go_ret;exact⟨k,rfl,a,rfl⟩
 .have g:=decide_eq_false d;have b:QO c n=((c.toNat%n:Nat):Int):=by
   rw[QM oo];have:c=(c.toNat:Int):=oo
   rw[QN,<-this]
  have a:c.toNat%n<n:=QQ _ f;generalize c.toNat%n=k at b a;have h:QG.wrap (k:Int)=k:=by rw[QH];omega
  go_enter Qz,Qt;go_wp2;go_ret;exact⟨k,rfl,a,rfl⟩
theorem Ls{s:Qb}(h:s.size=0):s=⟨#[]⟩:=by
 cases s with
 |mk d=>have:=QR h;rw[this]
theorem zg{s:Qb}(h:¬s.size=0):s.toList.isEmpty=false:=by
 cases a:s.toList.isEmpty with
 |false=>rfl
 |true=>
  rw[List.isEmpty_iff,QJ]at a;have:s.data.toList.length=0:=by rw[a];rfl
  exact absurd (by simpa using this) h
theorem Ui(s t:Qb)(w:QC):
  QD Qj 96 #[Qa s,Qa t] w λe w'=>e=QI (Qa (if s.size=0 then t else s))/\w'=w:=by
 by_cases a:s.size=0
 .rw[if_pos a];obtain rfl:s=⟨#[]⟩:=by
   cases s with
   |mk d=>have:=QR a;rw[this]
  go_enter QA,Qx;go_wp2;go_ret;exact⟨rfl,rfl⟩
 .rw[if_neg a];have b:=zg a;go_enter QA,Qx;go_wp2;go_ret;exact⟨rfl,rfl⟩
theorem acL(s:Qb)(c:Int)(t:Qb)(w:QC)(h0: -9223372036854775808<=c)(E:c<=9223372036854775807)(R:s.size<=1000000)(ht:t.size<=140737488351232):
  QD Qj 107 #[Qa s,Qd QG c,Qa t] w λe w'=> ∃r:ByteArray,e=QI (Qa r)/\r.size=s.size/\Below w.heap.size w w':=by
 by_cases u:s.size=0
 .obtain rfl:=Ls u;go_enter Qp,Qn;go_wp2;go_ret;exact⟨_,rfl,rfl,Below.refl _ _⟩
 have S:=zg u;by_cases v:t.size=0
 .obtain rfl:=Ls v;go_enter Qp,Qn;go_wp2;go_ret;exact⟨_,rfl,rfl,Below.refl _ _⟩
 have T:=zg v;obtain⟨cap,Z,M,a,m⟩:=bytesOf s w.heap.size w nR;replace a:=a.at;have g:s.data.toList.length=s.size:=ss
 generalize s.data.toList=K at a g;go_enter Qp,Qn;go_wp2_with fail;refine(acg c s.size w h0 E oo oo).mono ?_;rintro e L ⟨k,rfl,O,y⟩;rw[y];clear y L;go_wp2_with fail;go_loopw [9] (λq wr=> ∃(i:Nat) (l:List UInt8),q=Qd QG i/\i<=t.size/\k+i<=s.size/\l.length=s.size/\OwnR wr w.heap.size cap l/\Below w.heap.size w wr) (λq _=>t.size-(intOf q).toNat)
 case atStart=>exact⟨0,K,rfl,oo,oo,g,a,m⟩
 case round=>
  clear a m g;obtain⟨i,l,rfl,N,P,b,a,d⟩:=hrel;have o:QG.wrap ((k:Int)+(i:Int))=((k+i:Nat):Int):=by
   rw[QH];omega
  by_cases H:i<t.size
  .have B:decide ((i:Int)<(t.size:Int))=true:=decide_eq_true oo;by_cases I:k+i<s.size
   .have C:decide (((k+i:Nat):Int)<(s.size:Int))=true:=decide_eq_true oo;have G:=mM t (i:Int) i oo oo H;have F:=zk t i;have f:byt t i=((t.data.toList.getD i 0).toNat:Int):=rfl;generalize t.data.toList.getD i 0=x at f;rw[f]at G;clear F f;have D:=a.frozen (k+i) oo;have A:=a.cell (k+i) oo;have z:=a.set (k+i) x;have h:=d.setCell (p:=⟨w.heap.size,k+i,none⟩) nR (Qd .u8 (x.toNat:Int));generalize Q:k+i=j at o C D A z h I;have W:(0:Int)<=(j:Int):=oo
    have X:(j:Int)<(s.size:Int):=oo
    clear a d;go_wp2_with fail;go_roundw
    case rel=>exact⟨i+1,_,gn,oo,oo,by rw[List.length_set,b],z,h⟩
    case measure=>simp[intOf];omega
   .rw[show k+i=s.size by omega]at o;have J:=lW (n:=s.size) a b.symm;go_wp2;go_ret;exact⟨_,rfl,by show l.toArray.size=_;rw[List.size_toArray,b],d⟩
  .have B:decide ((i:Int)<(t.size:Int))=false:=decide_eq_false oo;have J:=lW (n:=s.size) a b.symm;go_wp2;go_ret;exact⟨_,rfl,by show l.toArray.size=_;rw[List.size_toArray,b],d⟩
theorem Tab.but{K:Nat->BitVec 64}{q:Nat}{w w':QC}(h:Tab K w)(a:Below q w w')(c:0<q):Tab K w':=λi b=>by
 rw[a.cell (p:=⟨0,i,none⟩) c];exact h i b
structure Wv where
 c:ByteArray
 s:ByteArray
 l:ByteArray
 t:ByteArray
 lp:Option Addr
 ln:Nat
 lc:Nat
 mp:Option Addr
 mn:Nat
 mc:Nat
def Wv.cs(v:Wv):Array Value:=#[Qa v.c,Qa v.s,Qa v.l,Qa v.t,Qi v.lp v.ln v.lc,Qi v.mp v.mn v.mc]
structure Wv.Ok (v:Wv):Prop where
 c:v.c.size<=1000000
 s:v.s.size<=1000000
 l:v.l.size<=1000000
 t:v.t.size<=1000000
structure Wv.Like (v v':Wv):Prop where
 c:v'.c.size=v.c.size
 s:v'.s.size=v.s.size
 l:v'.l.size=v.l.size
 t:v'.t.size=v.t.size
 lp:v'.lp=v.lp
 ln:v'.ln=v.ln
 lc:v'.lc=v.lc
 mp:v'.mp=v.mp
 mn:v'.mn=v.mn
 mc:v'.mc=v.mc
theorem Wv.at{w:QC}{b t:Nat}{v:Wv}(h:Blk w b v.cs t):w.cell? ⟨b,0,none⟩=some (Qa v.c)/\w.cell? ⟨b,1,none⟩=some (Qa v.s)/\w.cell? ⟨b,2,none⟩=some (Qa v.l)/\w.cell? ⟨b,3,none⟩=some (Qa v.t)/\w.cell? ⟨b,4,none⟩=some (Qi v.lp v.ln v.lc)/\w.cell? ⟨b,5,none⟩=some (Qi v.mp v.mn v.mc):=
 ⟨h.cell 0,h.cell 1,h.cell 2,h.cell 3,h.cell 4,h.cell 5⟩
theorem Ia{s:Qb}{l:Qu}(h:¬s=⟨l.toArray⟩):(s.toList==(⟨l.toArray⟩:ByteArray).toList)=false:=by
 cases b:s.toList==(⟨l.toArray⟩:ByteArray).toList with
 |false=>rfl
 |true=>
  have a:=eq_of_beq b;rw[QJ,QJ]at a;exact absurd (by
   cases s with
   |mk d=>
    have:d=l.toArray:=Array.toList_inj.mp a;rw[this]) h
theorem KE{s:Qb}{l:Qu}(h:¬s=⟨l.toArray⟩):(s.toList==l)=false:=by
 have:=Ia h;rwa [QJ ⟨l.toArray⟩]at this
theorem YK(o:OpV)(v:Wv)(q:Nat)(w:QC)(N:o.Ok)(M:v.Ok)(O:Blk w q v.cs 43):
  QD Qj 48 #[Qc (some ⟨q,0,none⟩),Qg o.cs] w λe w'=>e=QI (Qe #[])/\ ∃v',Wv.Like v v'/\Blk w' q v'.cs 43/\But q w w':=by
 have L:=Qh λs a h=>acL s o.n o.a a N.n0 N.n1 h N.a
 have ab:=O.lt;have g:(λa=>Blk a q v.cs 43/\Blk a w.heap.size o.cs 45/\But q w a) (w.alloc (QL o.cs 45)):=⟨O.alloc _,Blk.new _ _ _,(But.refl q w).alloc oo _⟩;obtain⟨n,p,u,m,x,y⟩:=OpV.at g.2.1;have R:=o.size;generalize F:o.cs=J at g n p u m x y R|-;replace F:=Qh F;generalize Q:o.b=B at m;have ad:q≠w.heap.size:=oo
 clear Q O;by_cases G:B=⟨#[99]⟩
 .subst G;go_enter Qm,Qk;go_wp2_with fail;clear n p u m x y;generalize w.alloc (QL J 45)=z at g|-;rw[<-F.out]at g;refine bu (S:=λa=>Blk a q v.cs 43/\Blk a w.heap.size o.cs 45/\But q w a) (ls:=[12]) kr ?_;have b:(λa=>Blk a q v.cs 43/\Blk a w.heap.size o.cs 45/\But q w a) z.drew:=⟨g.1.drew,g.2.1.drew,g.2.2.drew⟩;clear g;generalize z.drew=P at b|-;refine ae 0 20 b ?_;try simp only[qQ]
  refine ae 1 21 b ?_;try simp only[qQ]
  refine ae 2 22 b ?_;try simp only[qQ]
  refine ae 3 23 b ?_;try simp only[qQ]
  refine ac 4 24 (v:=Qa v.c) b ?_ ?_
  ·(intro a d;have j:=d.1.cell 0;rw[show v.cs[0]? =some (Qa v.c)from rfl]at j;clear d;go_simp;try (with_reducible rfl))
  try simp only[qQ]
  refine ae 5 25 b ?_;try simp only[qQ]
  refine ac 6 26 (v:=Qd QG o.n) b ?_ ?_
  ·(intro a d;obtain⟨n,p,u,m,x,y⟩:=OpV.at d.2.1;clear d;go_simp;try (with_reducible rfl))
  try simp only[qQ]
  refine ae 7 27 b ?_;try simp only[qQ]
  refine ac 8 28 (v:=Qa o.a) b ?_ ?_
  ·(intro a d;obtain⟨n,p,u,m,x,y⟩:=OpV.at d.2.1;clear d;go_simp;try (with_reducible rfl))
  try simp only[qQ]
  refine aF 9 λK i=>?_
  go_simp;go_wp2_with (go_at_call 107;refine(L.out v.c _ M.c).mono ?_;rintro e A ⟨r,rfl,E,k⟩);have f:(λa=>Blk a q v.cs 43/\Blk a w.heap.size o.cs 45/\But q w a) A:=⟨b.1.keep k,b.2.1.keep k,b.2.2.keep k (QP b.1.lt)⟩;refine i.out _ _ f ?_;try simp only[qQ]
  clear i K k b;refine ae 10 30 f ?_;try simp only[qQ]
  refine ae 11 31 f ?_;try simp only[qQ]
  refine eF 12 λK i=>?_
  have C:=f.1.frozen 0;have j:=f.1.cell 0;rw[show v.cs[0]? =some (Qa v.c)from rfl]at j;go_simp;refine i.out _ _ ?_;clear i K C j;have D:Blk (A.setCell ⟨q,0,none⟩ (Qa r)) q ({v with c:=r}:Wv).cs 43:=f.1.setAt 0 _ rfl;have h2:=f.2.2.set 0 (Qa r);clear f;refine aC ?_;go_wp2;refine QF (QE rfl _ _ _) rfl ⟨rfl,_,?_,D,h2⟩;exact⟨E,rfl,rfl,rfl,rfl,rfl,rfl,rfl,rfl,rfl⟩
 have T:=Ia (l:=[99]) G;have Z:=KE (l:=[99]) G;replace G:=Qh G;by_cases I:B=⟨#[115]⟩
 .subst I;go_enter Qm,Qk;go_wp2_with fail;clear n p u m x y;generalize w.alloc (QL J 45)=z at g|-;rw[<-F.out]at g;refine bu (S:=λa=>Blk a q v.cs 43/\Blk a w.heap.size o.cs 45/\But q w a) (ls:=[12]) kr ?_;have b:(λa=>Blk a q v.cs 43/\Blk a w.heap.size o.cs 45/\But q w a) z.drew:=⟨g.1.drew,g.2.1.drew,g.2.2.drew⟩;clear g;generalize z.drew=P at b|-;refine ae 0 34 b ?_;try simp only[qQ]
  refine ae 1 35 b ?_;try simp only[qQ]
  refine ae 2 36 b ?_;try simp only[qQ]
  refine ae 3 37 b ?_;try simp only[qQ]
  refine ac 4 38 (v:=Qa v.s) b ?_ ?_
  ·(intro a d;have j:=d.1.cell 1;rw[show v.cs[1]? =some (Qa v.s)from rfl]at j;clear d;go_simp;try (with_reducible rfl))
  try simp only[qQ]
  refine ae 5 39 b ?_;try simp only[qQ]
  refine ac 6 40 (v:=Qd QG o.n) b ?_ ?_
  ·(intro a d;obtain⟨n,p,u,m,x,y⟩:=OpV.at d.2.1;clear d;go_simp;try (with_reducible rfl))
  try simp only[qQ]
  refine ae 7 41 b ?_;try simp only[qQ]
  refine ac 8 42 (v:=Qa o.a) b ?_ ?_
  ·(intro a d;obtain⟨n,p,u,m,x,y⟩:=OpV.at d.2.1;clear d;go_simp;try (with_reducible rfl))
  try simp only[qQ]
  refine aF 9 λK i=>?_
  go_simp;go_wp2_with (go_at_call 107;refine(L.out v.s _ M.s).mono ?_;rintro e A ⟨r,rfl,E,k⟩);have f:(λa=>Blk a q v.cs 43/\Blk a w.heap.size o.cs 45/\But q w a) A:=⟨b.1.keep k,b.2.1.keep k,b.2.2.keep k (QP b.1.lt)⟩;refine i.out _ _ f ?_;try simp only[qQ]
  clear i K k b;refine ae 10 44 f ?_;try simp only[qQ]
  refine ae 11 45 f ?_;try simp only[qQ]
  refine eF 12 λK i=>?_
  have C:=f.1.frozen 1;have j:=f.1.cell 1;rw[show v.cs[1]? =some (Qa v.s)from rfl]at j;go_simp;refine i.out _ _ ?_;clear i K C j;have D:Blk (A.setCell ⟨q,1,none⟩ (Qa r)) q ({v with s:=r}:Wv).cs 43:=f.1.setAt 1 _ rfl;have h2:=f.2.2.set 1 (Qa r);clear f;refine aC ?_;go_wp2;refine QF (QE rfl _ _ _) rfl ⟨rfl,_,?_,D,h2⟩;exact⟨rfl,E,rfl,rfl,rfl,rfl,rfl,rfl,rfl,rfl⟩
 have X:=Ia (l:=[115]) I;have fs:=KE (l:=[115]) I;replace I:=Qh I;by_cases H:B=⟨#[108]⟩
 .subst H;go_enter Qm,Qk;go_wp2_with fail;clear n p u m x y;generalize w.alloc (QL J 45)=z at g|-;rw[<-F.out]at g;refine bu (S:=λa=>Blk a q v.cs 43/\Blk a w.heap.size o.cs 45/\But q w a) (ls:=[12]) kr ?_;have b:(λa=>Blk a q v.cs 43/\Blk a w.heap.size o.cs 45/\But q w a) z.drew:=⟨g.1.drew,g.2.1.drew,g.2.2.drew⟩;clear g;generalize z.drew=P at b|-;refine ae 0 48 b ?_;try simp only[qQ]
  refine ae 1 49 b ?_;try simp only[qQ]
  refine ae 2 50 b ?_;try simp only[qQ]
  refine ae 3 51 b ?_;try simp only[qQ]
  refine ac 4 52 (v:=Qa v.l) b ?_ ?_
  ·(intro a d;have j:=d.1.cell 2;rw[show v.cs[2]? =some (Qa v.l)from rfl]at j;clear d;go_simp;try (with_reducible rfl))
  try simp only[qQ]
  refine ae 5 53 b ?_;try simp only[qQ]
  refine ac 6 54 (v:=Qd QG o.n) b ?_ ?_
  ·(intro a d;obtain⟨n,p,u,m,x,y⟩:=OpV.at d.2.1;clear d;go_simp;try (with_reducible rfl))
  try simp only[qQ]
  refine ae 7 55 b ?_;try simp only[qQ]
  refine ac 8 56 (v:=Qa o.a) b ?_ ?_
  ·(intro a d;obtain⟨n,p,u,m,x,y⟩:=OpV.at d.2.1;clear d;go_simp;try (with_reducible rfl))
  try simp only[qQ]
  refine aF 9 λK i=>?_
  go_simp;go_wp2_with (go_at_call 107;refine(L.out v.l _ M.l).mono ?_;rintro e A ⟨r,rfl,E,k⟩);have f:(λa=>Blk a q v.cs 43/\Blk a w.heap.size o.cs 45/\But q w a) A:=⟨b.1.keep k,b.2.1.keep k,b.2.2.keep k (QP b.1.lt)⟩;refine i.out _ _ f ?_;try simp only[qQ]
  clear i K k b;refine ae 10 58 f ?_;try simp only[qQ]
  refine ae 11 59 f ?_;try simp only[qQ]
  refine eF 12 λK i=>?_
  have C:=f.1.frozen 2;have j:=f.1.cell 2;rw[show v.cs[2]? =some (Qa v.l)from rfl]at j;go_simp;refine i.out _ _ ?_;clear i K C j;have D:Blk (A.setCell ⟨q,2,none⟩ (Qa r)) q ({v with l:=r}:Wv).cs 43:=f.1.setAt 2 _ rfl;have h2:=f.2.2.set 2 (Qa r);clear f;refine aC ?_;go_wp2;refine QF (QE rfl _ _ _) rfl ⟨rfl,_,?_,D,h2⟩;exact⟨rfl,rfl,E,rfl,rfl,rfl,rfl,rfl,rfl,rfl⟩
 have W:=Ia (l:=[108]) H;have fl:=KE (l:=[108]) H;replace H:=Qh H;go_enter Qm,Qk;go_wp2_with fail;clear n p u m x y;generalize w.alloc (QL J 45)=z at g|-;rw[<-F.out]at g;refine bu (S:=λa=>Blk a q v.cs 43/\Blk a w.heap.size o.cs 45/\But q w a) (ls:=[12]) kr ?_;have b:(λa=>Blk a q v.cs 43/\Blk a w.heap.size o.cs 45/\But q w a) z.drew:=⟨g.1.drew,g.2.1.drew,g.2.2.drew⟩;clear g;generalize z.drew=P at b|-;refine ae 0 6 b ?_;try simp only[qQ]
 refine ae 1 7 b ?_;try simp only[qQ]
 refine ae 2 8 b ?_;try simp only[qQ]
 refine ae 3 9 b ?_;try simp only[qQ]
 refine ac 4 10 (v:=Qa v.t) b ?_ ?_
 ·(intro a d;have j:=d.1.cell 3;rw[show v.cs[3]? =some (Qa v.t)from rfl]at j;clear d;go_simp;try (with_reducible rfl))
 try simp only[qQ]
 refine ae 5 11 b ?_;try simp only[qQ]
 refine ac 6 12 (v:=Qd QG o.n) b ?_ ?_
 ·(intro a d;obtain⟨n,p,u,m,x,y⟩:=OpV.at d.2.1;clear d;go_simp;try (with_reducible rfl))
 try simp only[qQ]
 refine ae 7 13 b ?_;try simp only[qQ]
 refine ac 8 14 (v:=Qa o.a) b ?_ ?_
 ·(intro a d;obtain⟨n,p,u,m,x,y⟩:=OpV.at d.2.1;clear d;go_simp;try (with_reducible rfl))
 try simp only[qQ]
 refine aF 9 λK i=>?_
 go_simp;go_wp2_with (go_at_call 107;refine(L.out v.t _ M.t).mono ?_;rintro e A ⟨r,rfl,E,k⟩);have f:(λa=>Blk a q v.cs 43/\Blk a w.heap.size o.cs 45/\But q w a) A:=⟨b.1.keep k,b.2.1.keep k,b.2.2.keep k (QP b.1.lt)⟩;refine i.out _ _ f ?_;try simp only[qQ]
 clear i K k b;refine ae 10 16 f ?_;try simp only[qQ]
 refine ae 11 17 f ?_;try simp only[qQ]
 refine eF 12 λK i=>?_
 have C:=f.1.frozen 3;have j:=f.1.cell 3;rw[show v.cs[3]? =some (Qa v.t)from rfl]at j;go_simp;refine i.out _ _ ?_;clear i K C j;have D:Blk (A.setCell ⟨q,3,none⟩ (Qa r)) q ({v with t:=r}:Wv).cs 43:=f.1.setAt 3 _ rfl;have h2:=f.2.2.set 3 (Qa r);clear f;refine aC ?_;go_wp2;refine QF (QE rfl _ _ _) rfl ⟨rfl,_,?_,D,h2⟩;exact⟨rfl,rfl,rfl,E,rfl,rfl,rfl,rfl,rfl,rfl⟩
theorem aaJ(I J:QC->Prop)(x:∀a b,I a->Below a.heap.size a b->I b)(r:∀a,I a->J a)(o:OpV)(q:Nat)(w:QC)(y:I w)
  (g:Hid (o.k=1\/o.k=2\/o.k=3-> ∀c:QC,I c->QD Qj 41 #[Qg o.cs] c λe w'=>e=QI (Qf true)/\J w'))
  (h:Hid (o.k=4\/o.k=5-> ∀c:QC,I c->QD Qj 42 #[Qc (some ⟨q,0,none⟩),Qg o.cs] c λe w'=>e=QI (Qf true)/\J w'))
  (i:Hid (o.k=6\/o.k=7-> ∀c:QC,I c->QD Qj 43 #[Qg o.cs] c λe w'=>e=QI (Qf true)/\J w'))
  (j:Hid (o.k=8\/o.k=9\/o.k=10-> ∀c:QC,I c->QD Qj 44 #[Qc (some ⟨q,0,none⟩),Qg o.cs] c λe w'=>e=QI (Qf true)/\J w'))
  (k:Hid (o.k=11-> ∀c:QC,I c->QD Qj 45 #[Qc (some ⟨q,0,none⟩),Qg o.cs] c λe w'=>e=QI (Qf true)/\J w'))
  (l:Hid (o.k=12-> ∀c:QC,I c->QD Qj 46 #[Qc (some ⟨q,0,none⟩),Qg o.cs] c λe w'=>e=QI (Qf true)/\J w'))
  (m:Hid (o.k=13\/o.k=14-> ∀c:QC,I c->QD Qj 47 #[Qc (some ⟨q,0,none⟩),Qg o.cs] c λe w'=>e=QI (Qf true)/\J w'))
  (n:Hid (o.k=15-> ∀c:QC,I c->QD Qj 48 #[Qc (some ⟨q,0,none⟩),Qg o.cs] c λe w'=>e=QI (Qe #[])/\J w'))
  (p:Hid (o.k=16-> ∀c:QC,I c->QD Qj 49 #[Qc (some ⟨q,0,none⟩),Qg o.cs] c λe w'=>e=QI (Qe #[])/\J w'))
  :QD Qj 22 #[Qc (some ⟨q,0,none⟩),Qg o.cs] w λe w'=>e=QI (Qf true)/\J w':=by
 have f:Blk (w.alloc (QL o.cs 45)) w.heap.size o.cs 45:=Blk.new _ _ _;have d:Hid (I (w.alloc (QL o.cs 45))):=x _ _ y (bR.alloc nR _);have s:=(OpV.at f).1;clear y x;have v:=o.size;replace r:=Qh r;generalize o.cs=z at f d s g h i j k l m n p v|-;unfold Blk at f;generalize o.k=K at s g h i j k l m n p;have t:(K=1\/K=2\/K=3\/K=4\/K=5\/K=6\/K=7\/K=8\/K=9\/K=10\/K=11\/K=12\/K=13\/K=14\/K=15\/K=16)\/((K==1)=false/\(K==2)=false/\(K==3)=false/\(K==4)=false/\(K==5)=false/\(K==6)=false/\(K==7)=false/\(K==8)=false/\(K==9)=false/\(K==10)=false/\(K==11)=false/\(K==12)=false/\(K==13)=false/\(K==14)=false/\(K==15)=false/\(K==16)=false):=by
  simp only[beq_eq_false_iff_ne];omega
 rcases t with t|⟨A,L,M,N,O,P,Q,R,S,B,C,D,E,F,G,H⟩
 .rcases t with rfl|rfl|rfl|rfl|rfl|rfl|rfl|rfl|rfl|rfl|rfl|rfl|rfl|rfl|rfl|rfl
  all_goals
   go_enter QB,Qy;go_wp2_with (refine ld t45 rfl rfl (w.heap.size) rfl f v ?_);clear s f r;generalize w.alloc (QL z 45)=T at d|-;first
    |refine(g.out (by first|trivial|omega) _ d.out).mono ?_
    |refine(h.out (by first|trivial|omega) _ d.out).mono ?_
    |refine(i.out (by first|trivial|omega) _ d.out).mono ?_
    |refine(j.out (by first|trivial|omega) _ d.out).mono ?_
    |refine(k.out (by first|trivial|omega) _ d.out).mono ?_
    |refine(l.out (by first|trivial|omega) _ d.out).mono ?_
    |refine(m.out (by first|trivial|omega) _ d.out).mono ?_
    |refine(n.out (by first|trivial|omega) _ d.out).mono ?_
    |refine(p.out (by first|trivial|omega) _ d.out).mono ?_
   clear g h i j k l m n p;rintro e W ⟨rfl,u⟩;replace u:=Qh u;go_wp2;go_ret;exact⟨rfl,u.out⟩
 .clear g h i j k l m n p;go_enter QB,Qy;go_wp2_with (refine ld t45 rfl rfl (w.heap.size) rfl f v ?_);go_ret;exact⟨rfl,r.out _ d.out⟩
end Go.Proofs.YtclpbaokadfhhaaGreatDoor
