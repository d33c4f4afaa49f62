import Derived.Test.YtdgneicbmalnpaaGreatDoorKC
import Derived.Test.YtdgneicbmalnpaaGreatDooreP2
import Derived.Shelf.Strings.Split
import Derived.Shelf.Small.Strs
set_option linter.all false
set_option maxRecDepth 99999
open Go.Value renaming slice->Sa,string->Sb,int->Sc,pointer->Sd
open Go.IntKind renaming i64->Se
namespace Go.Proofs.YtdgneicbmalnpaaGreatDoor
open Go.RowKit Go.Maps
variable{W c:Int}{t:BY}{ts:LB}{f l:List (ByteArray×Value)}
def KC(c:Int)(t:BY):BY:=U3 (b_ c t.data.toList)
def hC(t:BY):Int:=((t.data.toList.headD 0).toNat:Int)-48
def hT(t:BY):BY:=U3 (t.data.toList.drop 2)
def hV(t:BY):Value:=.agg #[Sb t,Sc Se (hC t),Sb (hT t)]
def gT(W:Int)(t:BY):BY×Value:=(Y6 t W,hV t)
theorem a1B{a b:BY}(h:hV a=hV b):a=b:=by
 unfold hV at h;simp at h;exact h.1
theorem JI(l:List UInt8):(U3 l).data.toList=l:=by simp[U3]
theorem JL{l:List UInt8}{u:List UInt8}(h:ZF l c u true):hC (U3 l)=c/\hT (U3 l)=U3 u:=by
 obtain⟨hv,rfl⟩:=h.1 rfl;have:=Gi hv;unfold hC hT;rw[JI];refine⟨?_,rfl⟩;simp only[FK,fF];omega
theorem VE(h:vr c t.data.toList=true):ZF (KC c t).data.toList c t.data.toList true:=by
 refine⟨λ_=>⟨h,?_⟩,(λh=>by cases h)⟩;unfold KC;rw[JI];unfold b_;rw[D8 h]
theorem a2Z(h:vr c t.data.toList=true):hV (KC c t)=.agg #[Sb (KC c t),Sc Se c,Sb t]:=by
 obtain⟨h1,h2⟩:=JL (VE h);rw[Pq]at h1 h2;unfold hV;rw[h1,h2,Pq]
def Ym(W:Int)(t:BY):LB->LB
 | []=>[t]
 | y::r=>if Bj (Y6 t W) (Y6 y W) then t::y::r else y::Ym W t r
theorem kC(W:Int)(t:BY)(ts:LB):(Ym W t ts).map (gT W)=Yg (gT W t) (ts.map (gT W)):=by
 induction ts with
 | nil=>rfl
 | cons y r ih=>
  unfold Ym;show _=if Bj (Y6 t W) (Y6 y W)=true then _ else _;split
  ·rfl
  simp[ih]
def Zb(W:Int)(t:BY)(ts:LB):LB×Bool:=
 match ts.find? (λy=>decide (Y6 y W=Y6 t W)) with
 | some y=>(ts,decide (y=t))
 | none=>(Ym W t ts,true)
def I8(W:Int):LB->LB×Bool->LB×Bool
 | [],s=>s
 | t::r,s=>I8 W r ((Zb W t s.1).1,s.2&&(Zb W t s.1).2)
theorem Gn(W:Int)(a b:LB)(s:LB×Bool):I8 W (a++b) s=I8 W b (I8 W a s):=by
 induction a generalizing s with
 | nil=>rfl
 | cons t r ih=>exact ih _
theorem dP(W:Int)(a:LB)(ts:LB):(I8 W a (ts,false)).2=false:=by
 induction a generalizing ts with
 | nil=>rfl
 | cons t r ih=>exact ih _
def Ol(W:Int)(ts:LB):Prop:=Asc (ts.map (gT W))
theorem VG{y:BY}(hA:Ol W ts)(a:y∈ts)(hs:Y6 y W=Y6 t W):ts.find? (λy=>decide (Y6 y W=Y6 t W))=some y:=by
 cases hq:ts.find? (λy=>decide (Y6 y W=Y6 t W)) with
 | none=>exact absurd (by simpa using hs) (cu.1 hq y a)
 | some z=>
  have h1:=MV hq;have h2:Y6 z W=Y6 t W:=by simpa using jJ hq
  have e1:=Ik hA (EG (f:=gT W) a);have d:=Ik hA (EG (f:=gT W) h1);have c:=e1;have b:=d;rw[hs]at c;rw[h2,c]at b;rw[a1B (C_ b)]
theorem oL:ts.find? (λy=>decide (Y6 y W=Y6 t W))=none↔Y_ (ts.map (gT W)) (Y6 t W)=none:=by
 rw[Za,cu];constructor
 ·intro h p b;obtain⟨y,a,rfl⟩:=Rh.1 b;simpa[gT]using h y a
 intro h y a;simpa[gT]using h _ (EG (f:=gT W) a)
theorem WI(hA:Ol W ts):Ol W (Zb W t ts).1:=by
 unfold Zb
 cases hq:ts.find? (λy=>decide (Y6 y W=Y6 t W)) with
 | some y=>exact hA
 | none=>
  show Asc ((Ym W t ts).map (gT W));rw[kC];exact uw hA (λp a=>Za.1 (oL.1 hq) p a)
theorem bC{a:LB}{b:Bool}(hA:Ol W ts):Ol W (I8 W a (ts,b)).1:=by
 induction a generalizing ts b with
 | nil=>exact hA
 | cons t r ih=>exact ih (WI hA)
structure Fr(W:Int)(l f:List (ByteArray×Value))(ts:LB):Prop where
 asc:Ol W ts
 perm:(ts.map (gT W)).Perm (f++l)
 la:Asc l
 fa:Asc f
 dis:∀p∈f,Y_ l p.1=none
theorem Fr.start(h:Ol W ts):Fr W (ts.map (gT W)) [] ts:=⟨h,zF _,h,List.Pairwise.nil,J4⟩
theorem Fr.met(h:Fr W l f ts){t:BY}{v:Value}(hv:Y_ l (Y6 t W)=some v\/Y_ f (Y6 t W)=some v):∃y,v=hV y/\Zb W t ts=(ts,decide (y=t)):=by
 have hm:(Y6 t W,v)∈ts.map (gT W):=h.perm.mem_iff.2 (by
  rcases hv with hv|hv
  ·exact dJ _ (ZA hv)
  exact dF _ (ZA hv))
 obtain⟨y,a,e⟩:=Rh.1 hm;have e1:Y6 y W=Y6 t W:=G7 Prod.fst e;have b:hV y=v:=G7 Prod.snd e;refine⟨y,b.symm,?_⟩;unfold Zb;rw[VG h.asc a e1]
theorem Fr.add(h:Fr W l f ts){t:BY}(h1:Y_ l (Y6 t W)=none)(h2:Y_ f (Y6 t W)=none):Zb W t ts=(Ym W t ts,true)/\Fr W l (Yg (gT W t) f) (Ym W t ts):=by
 have b:Y_ (ts.map (gT W)) (Y6 t W)=none:=Za.2 (λp a=>by
  rcases Ph.1 (h.perm.mem_iff.1 a)with a|a
  ·exact Za.1 h2 p a
  exact Za.1 h1 p a)
 have e:Zb W t ts=(Ym W t ts,true):=by unfold Zb;rw[oL.2 b]
 refine⟨e,?_,?_,h.la,uw h.fa (λp a=>Za.1 h2 p a),λp a=>?_⟩
 ·have:=WI (t:=t) h.asc;rw[e]at this;exact this
 ·rw[kC];exact(Fe _ _).trans ((h.perm.cons _).trans ((Fe (gT W t) f).symm.append_right l))
 rcases qf.1 ((Fe _ _).mem_iff.1 a)with rfl|a
 ·exact h1
 exact h.dis p a
theorem Fr.done(h:Fr W l f ts):Lib.mergeD (mapD l) (mapD f)=mapD (ts.map (gT W))/\l.length+f.length=ts.length:=by
 obtain⟨m1,m2,a⟩:=JK f l h.fa h.la h.dis;refine⟨?_,?_⟩
 ·rw[a,a0w m1 h.asc (m2.trans h.perm.symm)]
 have:=h.perm.length_eq;simp at this;omega
def Xm(ls:List L4)(c:Int)(t:BY):LB:=(F_ ls++[(c,t)]).map λr=>KC r.1 r.2
def Hz(W:Int)(x:L4):G3:=⟨x.has,x.nm,Y6 (Qs x) W⟩
def Ui(W:Int)(m:M3)(ls:List L4)(c:Int)(t:BY):R3:=⟨rf m,ls.map (Hz W),Y6 (KC c t) W⟩
def st0:St:=⟨0,[],[]⟩
open Classical in
noncomputable def Zg(rs:List R3)(x:R3):List R3:=if x∈rs then rs else rs++[x]
open Classical in
noncomputable def V_(s:St)(m:M3)(ls:List L4)(c:Int)(t:BY):St×Int:=
 if ¬Lh s then(st0,1) else if ¬Fg m ls c t then(st0,2) else
 if (I8 s.wd (Xm ls c t) (s.ts,true)).2=false then(st0,3) else
 if 300<(I8 s.wd (Xm ls c t) (s.ts,true)).1.length\/150<(Zg s.rs (Ui s.wd m ls c t)).length then(st0,4) else
 (⟨s.wd,(I8 s.wd (Xm ls c t) (s.ts,true)).1,Zg s.rs (Ui s.wd m ls c t)⟩,0)
theorem BH:∀(a b:List UInt8),Op.bytesLess a b=bytesBefore a b
 | [],[]=>by simp[Op.bytesLess,bytesBefore]
 | [],_::_=>by simp[Op.bytesLess,bytesBefore]
 | _::_,[]=>by simp[Op.bytesLess,bytesBefore]
 | x::r,y::s=>by
  have:=BH r s;simp only[Op.bytesLess,bytesBefore];rw[this]
theorem Vr{s:St}(h:Lh s):Ol s.wd s.ts:=by
 obtain⟨_,⟨_,h2⟩,_⟩:=h;have key:∀(ts:LB),(∀k,k<ts.length->k=0\/Bj (Y6 (ts.getD (k-1) ByteArray.empty) s.wd) (Y6 (ts.getD k ByteArray.empty) s.wd)=true)->Ol s.wd ts:=by
  intro ts
  induction ts with
  | nil=>intro _;exact List.Pairwise.nil
  | cons y r ih=>
   intro h;have hr:Ol s.wd r:=ih (λk hk=>by
    by_cases h0:k=0
    ·exact .inl h0
    refine .inr ?_;have:=(h (k+1) L8).resolve_left O0;simp only[dK]at this;have e1:(y::r).getD (k+1) ByteArray.empty=r.getD k ByteArray.empty:=rfl;have c:(y::r).getD k ByteArray.empty=r.getD (k-1) ByteArray.empty:=by
     obtain⟨j,rfl⟩:∃j,k=j+1:=⟨k-1,O0⟩;rfl
    rw[e1,c]at this;exact this)
   refine zu.2 ⟨λp a=>?_,hr⟩
   cases r with
   | nil=>cases a
   | cons z q=>
    have h1:=(h 1 J4).resolve_left O0;have b:Bj (Y6 y s.wd) (Y6 z s.wd)=true:=h1;rcases qf.1 a with rfl|a
    ·exact b
    exact Vx b ((zu.1 hr).1 p a)
 refine key s.ts λk hk=>?_;rcases(h2 k hk).2 with h0|h0
 ·exact .inl h0
 refine .inr ?_;rw[BH]at h0;unfold Bj;rw[<- ByteArray.toList_eq,<- ByteArray.toList_eq];exact h0
end Go.Proofs.YtdgneicbmalnpaaGreatDoor
namespace Go.Proofs
open Go.Shelf
def Tryz.OH:Go.Shelf.Ren:=⟨λ| 137=>340|217=>352|266=>371|n=>n, λ| 9=>9|5=>5|3=>3|n=>n, λ| n=>n⟩
theorem Tryz.lays137:Go.Proofs.Lays.n137 prog Tryz.OH:={
 mixed:=Y0
 f137:=func340.trans (G7 some Y0)
 f217:=func352.trans (G7 some Y0)
 f266:=func371.trans (G7 some Y0)
 t3:=underlying3
 a3:=Tryz.isAgg3
 z3:=Tryz.sizeOf3
 v3:=Tryz.zeroValue3
 t5:=underlying5
 a5:=Tryz.isAgg5
 z5:=Tryz.sizeOf5
 v5:=Tryz.zeroValue5
 t9:=underlying9
 a9:=Tryz.isAgg9
 z9:=Tryz.sizeOf9
 v9:=Tryz.zeroValue9 }
theorem Tryz.strings_IndexByte(s:BY)(c:Int)(w:World):
 Calls prog 340 #[Sb s,.int .u8 c] w λe w'=>e=.returned (Sc Se (Lib.indexByte s.data.toList c.toNat.toUInt8))/\w'=w:=Any.strings_IndexByte Tryz.lays137 s c w
def Tryz.lays147_ren:Go.Shelf.Ren:=⟨λ| 147=>320|221=>297|268=>337|138=>279|143=>319|195=>317|197=>356|218=>318|219=>335|260=>373|217=>352|225=>353|224=>354|267=>355|266=>371|314=>372|n=>n, λ| 9=>9|3=>3|31=>22|4=>4|0=>0|105=>457|21=>21|5=>5|46=>370|119=>476|139=>479|138=>478|146=>415|51=>414|n=>n, λ| 1=>5|3=>9|4=>10|n=>n⟩
theorem Tryz.lays147:Go.Proofs.Lays.n147 prog Tryz.lays147_ren:={
 mixed:=Y0
 f138:=func279.trans (G7 some Y0)
 f143:=func319.trans (G7 some Y0)
 f147:=func320.trans (G7 some Y0)
 f195:=func317.trans (G7 some Y0)
 f197:=func356.trans (G7 some Y0)
 f217:=func352.trans (G7 some Y0)
 f218:=func318.trans (G7 some Y0)
 f219:=func335.trans (G7 some Y0)
 f221:=func297.trans (G7 some Y0)
 f224:=func354.trans (G7 some Y0)
 f225:=func353.trans (G7 some Y0)
 f260:=func373.trans (G7 some Y0)
 f266:=func371.trans (G7 some Y0)
 f267:=func355.trans (G7 some Y0)
 f268:=func337.trans (G7 some Y0)
 f314:=func372.trans (G7 some Y0)
 t0:=underlying0
 a0:=Tryz.isAgg0
 z0:=Tryz.sizeOf0
 v0:=Tryz.zeroValue0
 t3:=underlying3
 a3:=Tryz.isAgg3
 z3:=Tryz.sizeOf3
 v3:=Tryz.zeroValue3
 t4:=underlying4
 a4:=Tryz.isAgg4
 z4:=Tryz.sizeOf4
 v4:=Tryz.zeroValue4
 t5:=underlying5
 a5:=Tryz.isAgg5
 z5:=Tryz.sizeOf5
 v5:=Tryz.zeroValue5
 t9:=underlying9
 a9:=Tryz.isAgg9
 z9:=Tryz.sizeOf9
 v9:=Tryz.zeroValue9
 t21:=underlying21
 a21:=Tryz.isAgg21
 z21:=Tryz.sizeOf21
 v21:=Tryz.zeroValue21
 t31:=underlying22
 a31:=Tryz.isAgg22
 z31:=Tryz.sizeOf22
 v31:=Tryz.zeroValue22
 t46:=underlying370
 a46:=Tryz.isAgg370
 z46:=Tryz.sizeOf370
 v46:=Tryz.zeroValue370
 t51:=underlying414
 a51:=Tryz.isAgg414
 z51:=Tryz.sizeOf414
 v51:=Tryz.zeroValue414
 t105:=underlying457
 a105:=Tryz.isAgg457
 z105:=Tryz.sizeOf457
 v105:=Tryz.zeroValue457
 t119:=underlying476
 a119:=Tryz.isAgg476
 z119:=Tryz.sizeOf476
 t138:=underlying478
 a138:=Tryz.isAgg478
 z138:=Tryz.sizeOf478
 v138:=Tryz.zeroValue478
 t139:=underlying479
 a139:=Tryz.isAgg479
 z139:=Tryz.sizeOf479
 v139:=Tryz.zeroValue479
 t146:=underlying415
 a146:=Tryz.isAgg415
 z146:=Tryz.sizeOf415
 v146:=Tryz.zeroValue415
 g1:=Y0
 g3:=Y0
 g4:=by kernel_rfl }
theorem Tryz.strings_SplitN(s a:BY)(n:Nat)(m:Int)(w:World)(hs:s.size<4294967281)(hm:w.cell? ⟨5,0,none⟩=some (Sc Se m))(h1:1<=a.size)(c:1<=n)(b:n<=9223372036854775807):
 Calls prog 320 #[Sb s,Sb a,Sc Se n] w λe w'=>
  e=.returned (.slice (some ⟨w.heap.size,0,none⟩) (Lib.splitB a 0 (min n (s.size+1)-1) s).length (min n (s.size+1)))/\w'=w.alloc (.cells (Lib.cellsOf (Lib.splitB a 0 (min n (s.size+1)-1) s) (min n (s.size+1))) 9):=Any.strings_SplitN Tryz.lays147 Y0 s a n m w hs hm h1 c b
def Tryz.lays146_ren:Go.Shelf.Ren:=⟨λ| 146=>260|221=>297|268=>337|138=>279|143=>319|195=>317|197=>356|218=>318|219=>335|260=>373|217=>352|225=>353|224=>354|267=>355|266=>371|314=>372|n=>n, λ| 9=>9|3=>3|31=>22|4=>4|0=>0|105=>457|21=>21|5=>5|46=>370|119=>476|139=>479|138=>478|146=>415|51=>414|n=>n, λ| 1=>5|3=>9|4=>10|n=>n⟩
theorem Tryz.lays146:Go.Proofs.Lays.n146 prog Tryz.lays146_ren:={
 mixed:=Y0
 f138:=func279.trans (G7 some Y0)
 f143:=func319.trans (G7 some Y0)
 f146:=func260.trans (G7 some Y0)
 f195:=func317.trans (G7 some Y0)
 f197:=func356.trans (G7 some Y0)
 f217:=func352.trans (G7 some Y0)
 f218:=func318.trans (G7 some Y0)
 f219:=func335.trans (G7 some Y0)
 f221:=func297.trans (G7 some Y0)
 f224:=func354.trans (G7 some Y0)
 f225:=func353.trans (G7 some Y0)
 f260:=func373.trans (G7 some Y0)
 f266:=func371.trans (G7 some Y0)
 f267:=func355.trans (G7 some Y0)
 f268:=func337.trans (G7 some Y0)
 f314:=func372.trans (G7 some Y0)
 t0:=underlying0
 a0:=Tryz.isAgg0
 z0:=Tryz.sizeOf0
 v0:=Tryz.zeroValue0
 t3:=underlying3
 a3:=Tryz.isAgg3
 z3:=Tryz.sizeOf3
 v3:=Tryz.zeroValue3
 t4:=underlying4
 a4:=Tryz.isAgg4
 z4:=Tryz.sizeOf4
 v4:=Tryz.zeroValue4
 t5:=underlying5
 a5:=Tryz.isAgg5
 z5:=Tryz.sizeOf5
 v5:=Tryz.zeroValue5
 t9:=underlying9
 a9:=Tryz.isAgg9
 z9:=Tryz.sizeOf9
 v9:=Tryz.zeroValue9
 t21:=underlying21
 a21:=Tryz.isAgg21
 z21:=Tryz.sizeOf21
 v21:=Tryz.zeroValue21
 t31:=underlying22
 a31:=Tryz.isAgg22
 z31:=Tryz.sizeOf22
 v31:=Tryz.zeroValue22
 t46:=underlying370
 a46:=Tryz.isAgg370
 z46:=Tryz.sizeOf370
 v46:=Tryz.zeroValue370
 t51:=underlying414
 a51:=Tryz.isAgg414
 z51:=Tryz.sizeOf414
 v51:=Tryz.zeroValue414
 t105:=underlying457
 a105:=Tryz.isAgg457
 z105:=Tryz.sizeOf457
 v105:=Tryz.zeroValue457
 t119:=underlying476
 a119:=Tryz.isAgg476
 z119:=Tryz.sizeOf476
 t138:=underlying478
 a138:=Tryz.isAgg478
 z138:=Tryz.sizeOf478
 v138:=Tryz.zeroValue478
 t139:=underlying479
 a139:=Tryz.isAgg479
 z139:=Tryz.sizeOf479
 v139:=Tryz.zeroValue479
 t146:=underlying415
 a146:=Tryz.isAgg415
 z146:=Tryz.sizeOf415
 v146:=Tryz.zeroValue415
 g1:=Y0
 g3:=Y0
 g4:=by kernel_rfl }
theorem Tryz.strings_Split(s a:BY)(m:Int)(w:World)(hs:s.size<4294967281)(hm:w.cell? ⟨5,0,none⟩=some (Sc Se m))(h1:1<=a.size):
 Calls prog 260 #[Sb s,Sb a] w λe w'=>
  e=.returned (Sa (some ⟨w.heap.size,0,none⟩) (Lib.countB s a+1) (Lib.countB s a+1))/\w'=w.alloc (.cells ((Lib.splitB a 0 (Lib.countB s a) s).map Sb).toArray 9):=Any.strings_Split Tryz.lays146 Y0 s a m w hs hm h1
end Go.Proofs
namespace Go.Proofs.YtdgneicbmalnpaaGreatDoor
open Proofs.Tryz Go.RowKit
def lookW(h:Bool):BY:=if h then⟨#[104,97,115]⟩ else⟨#[97,115,107]⟩
