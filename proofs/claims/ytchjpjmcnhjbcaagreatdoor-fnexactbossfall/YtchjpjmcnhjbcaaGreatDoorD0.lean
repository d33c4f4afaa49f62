import Derived.Test.YtchjpjmcnhjbcaaGreatDoorC1
import Derived.Deep.QuietTactic
import Derived.BigQuiet
set_option linter.unusedVariables false
set_option maxHeartbeats 8000000
set_option maxRecDepth 100000
namespace Go.Proofs.YtchjpjmcnhjbcaaGreatDoor
open Proofs.Tryz Go.RowKit
variable {c d:Int} {l t:List UInt8} {s:BY} {w:World} {p:Addr} {B:Nat} {a:OA} {ss:LB}
def O8 (c:Int) (l:List UInt8):List UInt8:=if vr c l=true then UInt8.ofNat (48+c).toNat::58::l else []
theorem zh (h:vr c l=true):c=0\/c=1\/c=2\/c=3\/c=4\/c=5\/c=7:=by
 unfold vr at h;by_cases h1:c=0\/c=1
 · omega
 · rw [I7 h1] at h;by_cases h2:c=2
   · omega
   · rw [I7 h2] at h;by_cases b:c=3
     · omega
     · rw [I7 b] at h;by_cases a:c=4\/c=5\/c=7
       · omega
       · rw [I7 a] at h;cases h
theorem DK (h:vr c s.data.toList=false):Ending.returned (.string (⟨#[]⟩:BY))=.returned (.string (J3 (O8 c s.data.toList))):=by
 unfold O8;rw [h];rfl
theorem EF (h:vr c s.data.toList=true):J3 (O8 c s.data.toList)=J3 [UInt8.ofNat (48+c).toNat]++⟨#[58]⟩++s:=by
 unfold O8;rw [if_pos h];apply ByteArray.ext;simp [J3]
theorem past {v:Value} (a:p.block<w.heap.size) (h:w.cell? p=some v) (o:Obj):(w.alloc o).cell? p=some v:=by
 rw [((Z4 w.heap.size w).alloc H8 o).cell a];exact h
theorem UR (c:Int) (s:BY) (w:World) (f:s.size<=1048700):
 Calls prog 197 #[.agg #[.int .i64 c,.string s]] w fun e w'=>e=.returned (.string (J3 (O8 c s.data.toList)))/\Bw w w':=by
 go_enter func197,ntmps197
 go_wp2_with fail
 refine (jI _ _ _ f).mono ?_;rintro e b ⟨rfl,a⟩;have d:=((Z4 w.heap.size w).alloc H8 (.cells #[vI c,vS s] 103)).trans (a.mono X4);have hz1:w.heap.size+1<=b.heap.size:=by have:=a.size;simp at this;omega
 have g10:b.cell? (aW w 0)=some (vI c):=by rw [a.cell X4];simp
 have h:b.cell? (aW w 1)=some (vS s):=by rw [a.cell X4];simp
 cases hv:vr c s.data.toList
 · have hF:=DK hv;go_wp2;go_ret;exact ⟨hF,d⟩
 · have hc:=zh hv;have hF:=U0 (EF hv);have hcv:=xK;have hcd:=uP;have hz:∀ y,(strOfNums [y]).size=1:=fun y=>strOfNums_size [y];clear hv;have h0:0<=c:=O0;have h7:c<=7:=O0;have g:Hid (strOfNums [48+c]=J3 [UInt8.ofNat (48+c).toNat]):=by
    rcases hc with rfl | rfl | rfl | rfl | rfl | rfl | rfl <;> rfl
   clear hc;have g12:=past U7 h;go_wp2;go_ret;exact ⟨by rw [hF.out,<- g.out];rfl,by first | exact d.alloc O0 _ | exact (d.alloc O0 _).drew⟩
theorem jF (hc:c=0\/c=1\/c=2\/c=3\/c=4\/c=5\/c=7) (hd:0<=d/\d<=9) (h:UInt8.ofNat (48+c).toNat=UInt8.ofNat (48+d).toNat):c=d:=by
 have a:=U6 UInt8.toNat h;simp only [YC] at a;omega
def fD (l:List UInt8) (c:Int) (t:List UInt8) (ok:Bool):Prop:=
 (ok=true->vr c t=true/\l=UInt8.ofNat (48+c).toNat::58::t)/\(ok=false->(c=0/\t=[])/\∀ c' t',vr c' t'=true->l≠UInt8.ofNat (48+c').toNat::58::t')
theorem YV (h:vr c t=true):0<=c/\c<=9:=by have:=zh h;omega
theorem WJ {u:List UInt8} {a b:Bool} (h:fD l c t a) (k:fD l d u b):c=d/\t=u/\a=b:=by
 cases a <;> cases b
 · obtain ⟨⟨rfl,rfl⟩,_⟩:=h.2 rfl;obtain ⟨⟨rfl,rfl⟩,_⟩:=k.2 rfl;exact ⟨rfl,rfl,rfl⟩
 · obtain ⟨_,f⟩:=h.2 rfl;obtain ⟨h1,h2⟩:=k.1 rfl;exact absurd h2 (f _ _ h1)
 · obtain ⟨_,f⟩:=k.2 rfl;obtain ⟨h1,h2⟩:=h.1 rfl;exact absurd h2 (f _ _ h1)
 · obtain ⟨h1,h2⟩:=h.1 rfl;obtain ⟨g,e⟩:=k.1 rfl;rw [h2] at e;simp only [zi,Oy] at e;exact ⟨jF (zh h1) (YV g) e.1,e.2,rfl⟩
theorem Vx (h:∀ b a,vr b a=true->l≠UInt8.ofNat (48+b).toNat::58::a):fD l 0 [] false:=⟨(fun h=>by cases h),fun _=>⟨⟨rfl,rfl⟩,h⟩⟩
theorem LK (h:Uk l=true):0<=val l/\val l<=7/\l=[UInt8.ofNat (48+val l).toNat]:=by
 simp only [Uk,V_,Ud] at h;obtain ⟨⟨h1,h2⟩,a⟩:=h;have h0:=jm l h2;refine ⟨h0,a,?_⟩;have hd:=(ax l h2 h1).1;rw [dec_lt _ O0] at hd;exact hd.symm
theorem NP (h:c=0\/c=1\/c=2\/c=3\/c=4\/c=5\/c=7):Uk [UInt8.ofNat (48+c).toNat]=true:=by
 rcases h with rfl | rfl | rfl | rfl | rfl | rfl | rfl <;> decide
theorem fM (h:c=0\/c=1\/c=2\/c=3\/c=4\/c=5\/c=7):(58:UInt8)∉[UInt8.ofNat (48+c).toNat]:=by
 rcases h with rfl | rfl | rfl | rfl | rfl | rfl | rfl <;> decide
theorem IU {a b r q:List UInt8} (ha:(58:UInt8)∉a) (c:(58:UInt8)∉b) (h:a++58::r=b++58::q):a=b/\r=q:=by
 induction a generalizing b with
 | nil=>
  cases b with
  | nil=>exact ⟨rfl,by simpa using h⟩
  | cons x b=>simp at h;exact absurd (by rw [h.1];simp) c
 | cons x a ih=>
  cases b with
  | nil=>simp at h;exact absurd (by rw [h.1];simp) ha
  | cons y b=>
   simp only [rf,zi] at h;obtain ⟨rfl,h⟩:=h;obtain ⟨rfl,rfl⟩:=ih (fun m=>ha (Rf _ m)) (fun m=>c (Rf _ m)) h;exact ⟨rfl,rfl⟩
theorem VP:((Lib.cut l [58]).2.2=true->Uk (Lib.cut l [58]).1=true->vr (yH (Lib.cut l [58]).1) (Lib.cut l [58]).2.1=true->fD l (yH (Lib.cut l [58]).1) (Lib.cut l [58]).2.1 true)/\(¬ ((Lib.cut l [58]).2.2=true/\Uk (Lib.cut l [58]).1=true/\vr (yH (Lib.cut l [58]).1) (Lib.cut l [58]).2.1=true)->fD l 0 [] false):=by
 have hcut:=TY l;generalize (Lib.cut l [58]).1=a at hcut ⊢;generalize (Lib.cut l [58]).2.1=t at hcut ⊢;generalize (Lib.cut l [58]).2.2=k at hcut ⊢;rcases hcut with ⟨rfl,rfl,f⟩ | ⟨rfl,rfl,f⟩
 · refine ⟨fun _ c hv=>⟨fun _=>⟨hv,?_⟩,(fun h=>by cases h)⟩,fun h=>Vx fun g i d e=>?_⟩
   · obtain ⟨_,_,h⟩:=LK c;rw [kF c]
     conv=>lhs;rw [h]
     rfl
   · obtain ⟨rfl,rfl⟩:=IU (b:=[UInt8.ofNat (48+g).toNat]) f (fM (zh d)) e;have c:=NP (zh d);obtain ⟨h0,h1,hl⟩:=LK c;have hc:=jF (zh d) ⟨h0,O0⟩ (by simpa using hl);refine h ⟨rfl,c,?_⟩;rw [kF c,<- hc];exact d
 · refine ⟨(fun h=>by cases h),fun _=>Vx fun g i d e=>f ?_⟩;rw [e];simp
theorem ML (h:l.length<2):fD l 0 [] false:=Vx fun c' t' _ e=>by rw [e] at h;simp at h;omega
theorem jM (h:((l.headD 0).toNat:Int)<48\/57<((l.headD 0).toNat:Int)):fD l 0 [] false:=Vx fun c' t' hv e=>by
 rw [e] at h;simp only [kJ] at h;have:=zh hv;rw [YC] at h;omega
theorem CP {x:UInt8} (h2:2<=l.length) (hx:l.headD 0=x) (hc:(x.toNat:Int)=48+c) (h0:0<=c/\c<=9):
 (O8 c (l.drop 2)=l->fD l c (l.drop 2) true)/\(O8 c (l.drop 2)≠l->fD l 0 [] false):=by
 constructor
 · intro h;unfold O8 at h;by_cases hv:vr c (l.drop 2)=true
   · rw [X7 hv] at h;exact ⟨fun _=>⟨hv,h.symm⟩,(fun h=>by cases h)⟩
   · rw [I7 hv] at h;rw [<- h] at h2;simp at h2
 · intro h;refine Vx fun a t' hv e=>h ?_;rw [e] at hx ⊢;simp only [kJ] at hx;have:a=c:=jF (zh hv) h0 (by
    rw [hx];apply Yh.1;rw [YC];have:=x.toNat_lt;omega)
   subst this;simp only [List.drop_succ_cons,KE];unfold O8;rw [X7 hv]
def BN (l:List UInt8) (e:Ending):Prop:=∃ (c:Int) (t:List UInt8) (ok:Bool),e=.returned (.tuple #[.agg #[.int .i64 c,.string (J3 t)],.bool ok])/\fD l c t ok/\t.length<=l.length
theorem Eo (l:List UInt8):(J3 l).data.toList=l:=by simp [J3]
theorem bn (s:BY):J3 s.data.toList=s:=by apply Df;simp [J3]
theorem cut_small (l:List UInt8):(Lib.cut l [58]).1.length<=l.length/\(Lib.cut l [58]).2.1.length<=l.length:=by
 unfold Lib.cut;split
 · simp only [B_,yj];omega
 · simp
theorem Ed {j k:Nat} (h:j≠k):(⟨B,j,none⟩:Addr)≠⟨B,k,none⟩:=fun e=>h (by cases e;rfl)
theorem rz2 {u:World} (a:Below (w.heap.size+1) (w.alloc (.cells #[.int .i64 0,.string ⟨#[]⟩] 103)) u):
 (u.cell? ⟨w.heap.size,0,none⟩=some (.int .i64 0)/\u.cell? ⟨w.heap.size,1,none⟩=some (.string ⟨#[]⟩))/\u.frozen? ⟨w.heap.size,0,none⟩=false/\u.frozen? ⟨w.heap.size,1,none⟩=false:=by
 have c:∀ j,u.cell? (aW w j)=(w.alloc (.cells #[vO,vE] 103)).cell? (aW w j):=fun j=>a.cell X4;have f:∀ j,u.frozen? (aW w j)=(w.alloc (.cells #[vO,vE] 103)).frozen? (aW w j):=fun j=>a.frozen X4;rw [c,c,f,f];simp
theorem PG (a:p.block<w.heap.size) (h:w.frozen? p=false) (o:Obj):(w.alloc o).frozen? p=false:=by
 rw [((Z4 w.heap.size w).alloc H8 o).frozen a];exact h
theorem Gm (u:World) (B:Nat) (a b x0 x1:Value) (h0:u.cell? ⟨B,0,none⟩=some x0) (h1:u.cell? ⟨B,1,none⟩=some x1):
 ((u.setCell ⟨B,0,none⟩ a).setCell ⟨B,1,none⟩ b).cell? ⟨B,0,none⟩=some a/\((u.setCell ⟨B,0,none⟩ a).setCell ⟨B,1,none⟩ b).cell? ⟨B,1,none⟩=some b:=by
 have c:(u.setCell (aA B 0) a).cell? (aA B 1)=some x1:=by rw [Na _ _ _ _ (Ed O0)];exact h1
 refine ⟨?_,jg _ _ _ c⟩;rw [Na _ _ _ _ (Ed O0)];exact jg _ _ _ h0
theorem a3k (l:List UInt8) (w:World) (P:l.length<=1048700) (hm:Dc w):
 Calls prog 150 #[.string (J3 l)] w fun e w'=>BN l e/\Bw w w':=by
 have u:=cut_small l;have b:=@VP l;have z:Bw w (w.alloc (.cells #[vO,vE] 103)):=(Z4 w.heap.size w).alloc H8 _;have o:=zT l _ P (x9 hm z);generalize ha:(Lib.cut l [58]).1=a at u b o;generalize ht:(Lib.cut l [58]).2.1=t at u b o;generalize hk:(Lib.cut l [58]).2.2=k at u b o;clear ha ht hk;have J:=a0E (J3 a);rw [Eo,I5] at J;have I:=fun c=>pM c (J3 t);rw [Eo,I5] at I;obtain ⟨hca,Q⟩:=u;go_enter func150,ntmps150
 go_wp2_with fail
 refine o.mono ?_;rintro e i ⟨rfl,E⟩;have s:Below (w.heap.size+1) (w.alloc (.cells #[vO,vE] 103)) i:=KD E;have n:=z.trans (s.mono O0);have d:w.heap.size<i.heap.size:=by have:=s.size;simp at this;omega
 clear E o
 go_wp2_with fail
 refine (J _ O0).mono ?_;rintro e w' ⟨rfl,D⟩;obtain rfl:=D.symm;clear D;obtain ⟨⟨g,f⟩,y,x⟩:=rz2 s;have L:=past (by exact d) g;have K:=past (by exact d) f;have O:=PG (by exact d) y;have N:=PG (by exact d) x;have j:¬ (k=true/\Uk a=true/\vr (yH a) t=true)->Hid (BN l (.returned (.tuple #[.agg #[vO,vE],.bool false]))):=fun h=>⟨0,[],false,rfl,b.2 h,J4 _⟩;cases hk:k
 · have m:=j (by rw [hk];simp);clear j b;go_wp2;have F:=Gm i w.heap.size vO vE _ _ g f;have B:=past (p:=(aW w 0)) (by simpa using d) F.1;have A:=past (p:=(aW w 1)) (by simpa using d) F.2;refine Y6 (v:=.tuple #[.agg #[vO,vE],.bool false]) (by simp [results,results150,go_sem,B,A]) rfl ⟨m.out,?_⟩
   first
    | exact ((n.setCell X4 _).setCell X4 _).alloc (by simpa using n.size) _
    | exact ((n.setCell X4 _).setCell X4 _)
 cases h7:Uk a
 · have m:=j (by rw [h7];simp);clear j b;go_wp2;have F:=Gm i w.heap.size vO vE _ _ g f;have B:=past (p:=(aW w 0)) (by simpa using d) F.1;have A:=past (p:=(aW w 1)) (by simpa using d) F.2;refine Y6 (v:=.tuple #[.agg #[vO,vE],.bool false]) (by simp [results,results150,go_sem,B,A]) rfl ⟨m.out,?_⟩
   first
    | exact ((n.setCell X4 _).setCell X4 _).alloc (by simpa using n.size) _
    | exact ((n.setCell X4 _).setCell X4 _)
 go_wp2_with fail
 refine (I _ _ O0).mono ?_;rintro e r ⟨rfl,q⟩;have C:=(s.alloc O0 (.cells #[vI (yH a),vS (J3 t)] 103)).trans (q.mono U7);have H:=z.trans (C.mono O0);have hR3:i.heap.size<r.heap.size:=by have:=q.size;simp at this;omega
 have r0:r.cell? (aW i 0)=some (vI (yH a)):=by rw [q.cell X4];simp
 have r1:r.cell? (aW i 1)=some (vS (J3 t)):=by rw [q.cell X4];simp
 clear g f y x L K O N q;obtain ⟨⟨g,f⟩,y,x⟩:=rz2 C;cases hv:vr (yH a) t
 · have m:=j (by rw [hv];simp);clear j b;go_wp2;refine Y6 (v:=.tuple #[.agg #[vO,vE],.bool false]) (by simp [results,results150,go_sem,g,f]) rfl ⟨m.out,?_⟩;exact ((H.setCell X4 _).setCell X4 _)
 · have m:Hid (BN l (.returned (.tuple #[.agg #[vI (yH a),vS (J3 t)],.bool true]))):=⟨yH a,t,true,rfl,b.1 hk h7 hv,Q⟩;clear j b hv;go_wp2;have F:=Gm r w.heap.size (vI (yH a)) (vS (J3 t)) _ _ g f;refine Y6 (v:=.tuple #[.agg #[vI (yH a),vS (J3 t)],.bool true]) (by simp [results,results150,go_sem,F.1,F.2]) rfl ⟨m.out,?_⟩;exact ((H.setCell X4 _).setCell X4 _)
theorem drop2 (s:BY):s.extract 2 s.size=J3 (s.data.toList.drop 2):=by
 apply Df;apply Yk.1;simp [J3];exact l_ X4
theorem a3v (s:BY) (w:World) (hs:s.size<=1048700):
 Calls prog 239 #[.string s] w fun e w'=>BN s.data.toList e/\Bw w w':=by
 have p:s.data.toList.length=s.size:=X4;have j:Bw w (w.alloc (.cells #[vO,vE] 103)):=(Z4 w.heap.size w).alloc H8 _;have a:fD s.data.toList 0 [] false->Hid (BN s.data.toList (.returned (.tuple #[.agg #[vO,vE],.bool false]))):=fun h=>⟨0,[],false,rfl,h,J4 _⟩;by_cases h2:s.size<2
 · have b:=a (ML O0);clear a p;go_enter func239,ntmps239;go_wp2;refine Y6 (v:=.tuple #[.agg #[vO,vE],.bool false]) (by simp [results,results239,go_sem]) rfl ⟨b.out,j⟩
 have h0:0<s.size:=O0;have i:=Ep s h0;by_cases hd:(s[0].toNat:Int)<48\/57<(s[0].toNat:Int)
 · have b:=a (jM (by rw [i];exact hd));clear a p i;rcases hd with hd | hd
   all_goals
    go_enter func239,ntmps239;go_wp2;refine Y6 (v:=.tuple #[.agg #[vO,vE],.bool false]) (by simp [results,results239,go_sem]) rfl ⟨b.out,j⟩
 · have r:48<=(s[0].toNat:Int)/\(s[0].toNat:Int)<=57:=O0;have hw:=Qn _ r;have g:=CP (l:=s.data.toList) (x:=s[0]) (c:=(s[0].toNat:Int) - 48) O0 i O0 O0;have hx:=drop2 s;clear i hd;have q:(s.data.toList.drop 2).length<=s.data.toList.length:=X4;generalize hT:s.data.toList.drop 2=T at g hx q;clear hT;have k:=UR ((s[0].toNat:Int) - 48) (J3 T);rw [Eo,I5] at k;generalize hL:s.data.toList=L at*;generalize hC:(s[0].toNat:Int) - 48=C at*;obtain ⟨d1,d2⟩:=r;go_enter func239,ntmps239
   go_wp2_with fail
   go_region
   all_goals
    go_wp2_with fail
    refine (k _ O0).mono ?_;rintro e d ⟨rfl,f⟩;have hz3:w.heap.size+2<=d.heap.size:=by have:=f.size;simp at this;omega
    have o:Below (w.heap.size+1) (w.alloc (.cells #[vO,vE] 103)) d:=by
     refine Below.trans ?_ (f.mono X4)
     first | exact ((Z4 _ _).alloc X4 _).drew | exact (Z4 _ _).alloc X4 _
    have t:=j.trans (o.mono O0);have r0:d.cell? (aA (w.heap.size+1) 0)=some (vI C):=by rw [f.cell X4];simp [go_sem]
    have r1:d.cell? (aA (w.heap.size+1) 1)=some (vS (J3 T)):=by rw [f.cell X4];simp [go_sem]
    obtain ⟨⟨n,m⟩,y0,y1⟩:=rz2 o;clear f k;by_cases hf:O8 C T=L
    · have b:Hid (BN L (.returned (.tuple #[.agg #[vI C,vS (J3 T)],.bool true]))):=⟨C,T,true,rfl,g.1 hf,q⟩;have e1:((J3 (O8 C T)).toList==s.toList)=true:=by rw [hf,ByteArray.toList_eq,ByteArray.toList_eq,Eo,hL];simp
      have u:(J3 (O8 C T)).toList=s.toList:=by simpa using e1
      clear a g hf;go_wp2;have F:=Gm d w.heap.size (vI C) (vS (J3 T)) _ _ n m;refine Y6 (v:=.tuple #[.agg #[vI C,vS (J3 T)],.bool true]) (by simp [results,results239,go_sem,F.1,F.2]) rfl ⟨b.out,?_⟩;exact ((t.setCell X4 _).setCell X4 _)
    · have b:=a (g.2 hf);have u:¬ (J3 (O8 C T)).toList=s.toList:=by rw [ByteArray.toList_eq,ByteArray.toList_eq,Eo,hL];exact hf
      have e1:((J3 (O8 C T)).toList==s.toList)=false:=by simpa using u
      clear a g hf;go_wp2;have F:=Gm d w.heap.size vO vE _ _ n m;refine Y6 (v:=.tuple #[.agg #[vO,vE],.bool false]) (by simp [results,results239,go_sem,F.1,F.2]) rfl ⟨b.out,?_⟩;exact ((t.setCell X4 _).setCell X4 _)
def P7 (w:World) (a:OA) (ss:LB):Prop:=
 ss=[]\/∃ b off,a=some ⟨b,off,none⟩/\b<w.heap.size/\∀ i,i<ss.length->w.cell? ⟨b,off+i,none⟩=some (.string (ss.getD i ByteArray.empty))
theorem info9:(prog.info? 9).map (fun i=>(i.zero,i.size,i.bytes))=some (some (.string ⟨#[]⟩),1,16):=Y2
theorem K_ (h:P7 w a ss):∃ b off,(ss=[]\/(a=some ⟨b,off,none⟩/\b<w.heap.size/\∀ i,i<ss.length->w.cell? ⟨b,off+i,none⟩=some (.string (ss.getD i ByteArray.empty)))):=by
 rcases h with h | ⟨b,off,h⟩
 · exact ⟨0,0,.inl h⟩
 · exact ⟨b,off,.inr h⟩
theorem U5 {w':World} (h:P7 w a ss) (c:Bw w w'):P7 w' a ss:=by
 rcases h with h | ⟨b,off,h1,h2,e⟩
 · exact .inl h
 · exact .inr ⟨b,off,h1,O9 h2 c.size,fun i d=>by rw [c.cell (by exact h2)];exact e i d⟩
theorem bI (h:∀ i,i<ss.length->(ss.getD i ByteArray.empty).size<=B) (i:Nat):(ss.getD i ByteArray.empty).size<=B:=by
 rcases Q7 i ss.length with a | a
 · exact h i a
 · have e:ss.getD i ByteArray.empty=ByteArray.empty:=by simp [List.getD,Yb a]
   rw [e];exact J4 _
theorem c15 (a:OA) (o:Nat) (ss:LB) (l:Int) (w:World) (h0:0<=l) (h1:l<=1048576) (m:∀ i,(ss.getD i ByteArray.empty).size<=9223372036854775807) (hl:ss.length<=9223372036854775807) (j:P7 w a ss):
 Calls prog 15 #[.slice a ss.length o,.int .i64 l] w fun e w'=>(∃ r:Int,e=.returned (.int .i64 r)/\(0<=r->ss.length<=1048576/\(∀ i,(ss.getD i ByteArray.empty).size<=1048576)/\r<=l - ss.length))/\w'=w:=by
 obtain ⟨b,off,hc⟩:=K_ j;have s:=U0 hc;clear hc j;by_cases hbig:l<ss.length
 · go_enter func15,ntmps15;go_wp2;go_ret;exact ⟨⟨-1,rfl,fun h=>O0⟩,rfl⟩
 · go_enter func15,ntmps15
   go_wp2_with fail
   go_loop [1,5] (fun q i=>∃ (k:Nat) (r:Int),k<=ss.length/\i=.int .i64 k/\q=.int .i64 r/\0<=r/\r<=l - ss.length/\Hid (∀ i,i<k->(ss.getD i ByteArray.empty).size<=1048576)) (fun _ i=>ss.length - (RowKit.intOf i).toNat)
   case atStart=>exact ⟨0,_,J4 _,rfl,rfl,O0,O0,fun i h=>absurd h (J8 _)⟩
   case round=>
    obtain ⟨k,r,hk,rfl,rfl,hr0,n,d⟩:=hrel;by_cases f:k<ss.length
    · obtain ⟨ha,hbw,g⟩:=Cc s.out f;subst ha;have g0:=g k f;have hxs:=m k;generalize hx:ss.getD k ByteArray.empty=x at*;have p:=U0 hx;clear hx g;by_cases hneg:r<x.size
      · go_wp2;go_ret;exact ⟨⟨-1,rfl,fun h=>O0⟩,rfl⟩
      · have c:Hid (∀ i,i<k+1->(ss.getD i ByteArray.empty).size<=1048576):=by
         intro i h;rcases Q7 i k with h1 | h1
         · exact d.out i h1
         · obtain rfl:i=k:=O0;rw [p.out];omega
        go_wp2
        go_round
        case rel=>exact ⟨k+1,_,O0,by go_num,rfl,O0,O0,c⟩
        case measure=>simp [RowKit.intOf];omega
    · have c:=U0 (bI (fun i h=>d.out i O0));go_wp2;go_ret;exact ⟨⟨r,rfl,fun _=>⟨O0,c.out,n⟩⟩,rfl⟩
theorem c33 (a l:OA) (o n:Nat) (ss:LB) (w:World) (hl:ss.length<=1048576) (j:P7 w a ss) (h:P7 w l ss):
 Calls prog 33 #[.slice a ss.length o,.slice l ss.length n] w fun e w'=>e=.returned (.bool true)/\Bw w w':=by
 obtain ⟨b,off,hc⟩:=K_ j;have q:=U0 hc;clear hc j;obtain ⟨b',off',g⟩:=K_ h;have p:=U0 g;clear g h;go_enter func33,ntmps33
 go_wp2_with fail
 go_loopw [5] (fun i wr=>∃ (k nq:Nat),k<=ss.length/\i=.int .i64 k/\wr=w.drewN nq) (fun i _=>ss.length - (RowKit.intOf i).toNat)
 case atStart=>exact ⟨0,0,J4 _,rfl,rfl⟩
 case round=>
  obtain ⟨k,nq,hk,rfl,rfl⟩:=hrel;by_cases c:k<ss.length
  · obtain ⟨ha,hbw,f⟩:=Cc q.out c;obtain ⟨m,a5A,d⟩:=Cc p.out c;subst ha;subst m;have g0:=f k c;have g1:=d k c;generalize ss.getD k ByteArray.empty=x at*;clear f d
    go_wp2_with fail
    go_quiet (fail)
    go_wp2;go_roundw
    case rel=>exact ⟨k+1,_,O0,by go_num,rfl⟩
    case measure=>simp [RowKit.intOf];omega
  · go_wp2;go_ret;exact ⟨rfl,below_drewN _⟩
