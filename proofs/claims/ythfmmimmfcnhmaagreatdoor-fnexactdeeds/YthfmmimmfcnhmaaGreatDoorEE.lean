import Derived.Test.YthfmmimmfcnhmaaGreatDoorDX
import Derived.Test.YthfmmimmfcnhmaaGreatDoorZ51
import Derived.Test.YthfmmimmfcnhmaaGreatDoorED
set_option linter.unusedVariables false
set_option maxHeartbeats 8000000
set_option maxRecDepth 100000
namespace Go.Proofs.YthfmmimmfcnhmaaGreatDoor
open Proofs.Tryz
open Go.RowKit
open G (IsPT)
open G.T (F2 f2z treeOk FilesAt)
variable {w w':World} {cap g:Nat} {fs:List F2}
open Classical in
noncomputable def ow0 (kb mr mw:Nat) (pv:Value) (k:Nat):Option Ow:=if k=kb then some .kb else if k=mr then some .mr else if k=mw then some .mw else if pv.ownBlock=some k then some .pl else none
noncomputable def gh0 (kb mr mw:Nat) (pv:Value):Gh:=⟨[],[],.slice none 0 0,ow0 kb mr mw pv,[],[]⟩
theorem shp0 {a:Option Addr} {kb mr mw:Nat} {pv:Value} {ms:List M3} (hk:Cl w' kb 88 [.slice a fs.length cap,pv,.map (some mr),.map (some mw),.slice none 0 0]) (h1:w'.ownsMap prog 9 tokR mr 0 (mapD [])) (h2:w'.ownsMap prog 9 tokR mw 0 (mapD [])) (hp:w'.ownsRow w.heap.size 50 3 pv ms.length (G.mkCells ms)) (l1:w.heap.size<=kb) (l2:w.heap.size<=mr) (l3:w.heap.size<=mw) (hne:mr≠mw) (hb:Below w.heap.size w w'):Shp ⟨w,kb,mr,mw,a,cap,fs,pv,ms⟩ (gh0 kb mr mw pv) w':=by
 have n1:kb≠mr:=cells_ne_map (hk.cell 0) (mp_isMap h1).choose_spec.choose_spec
 have n2:kb≠mw:=cells_ne_map (hk.cell 0) (mp_isMap h2).choose_spec.choose_spec
 have hpl:∀ k,pv.ownBlock=some k->k≠kb/\k≠mr/\k≠mw/\w.heap.size<=k:=fun k e=>by
  obtain ⟨hge,cur,hcu⟩:=own_block hp e
  refine ⟨blk_ne hcu hk (by decide),fun c=>?_,fun c=>?_,hge⟩
  · obtain ⟨es,ck,hm⟩:=mp_isMap h1
    rw [c,hm] at hcu
    cases hcu
  obtain ⟨es,ck,hm⟩:=mp_isMap h2
  rw [c,hm] at hcu
  cases hcu
 exact {
  bl:=hb
  oge:=fun k o e=>by
   show w.heap.size<=k
   have e:ow0 kb mr mw pv k=some o:=e
   unfold ow0 at e
   split at e
   · omega
   split at e
   · omega
   split at e
   · omega
   split at e
   · exact (hpl k (by assumption)).2.2.2
   cases e
  kb:=hk
  okb:=by show ow0 kb mr mw pv kb=_;unfold ow0;rw [if_pos rfl]
  mr:=h1
  ar:=List.Pairwise.nil
  omr:=by show ow0 kb mr mw pv mr=_;unfold ow0;rw [if_neg n1.symm,if_pos rfl]
  mw:=h2
  aw:=List.Pairwise.nil
  omw:=by show ow0 kb mr mw pv mw=_;unfold ow0;rw [if_neg n2.symm,if_neg hne.symm,if_pos rfl]
  pl:=hp
  opl:=fun k e=>by
   obtain ⟨q1,q2,q3,_⟩:=hpl k e
   show ow0 kb mr mw pv k=_
   unfold ow0
   rw [if_neg q1,if_neg q2,if_neg q3,if_pos e]
  rd:=.inl ⟨rfl,rfl⟩
  ord:=fun k e=>by cases e
  its:=fun it h=>by cases h
  ru:=fun i x e=>by cases e
  oru:=fun i x e=>by cases e
  wr:=fun i x e=>by cases e
  owr:=fun i x e=>by cases e
  wlt:=fun i x e=>by cases e
  key:=fun i x e=>by cases e
  only:=fun n h=>absurd rfl h
  kw:=fun i x e=>by cases e
  kwo:=fun n h=>absurd rfl h
  inj:=fun i j x y e=>by cases e
  qlt:=fun it h=>by cases h }
theorem lgc0 (E:Env) (kb mr mw:Nat) (pv:Value):Lgc E (gh0 kb mr mw pv) none:=
 ⟨(fun i x e=>by cases e),(fun i j x y e=>by cases e),(fun i x e=>by cases e),(fun i x e=>by cases e),(fun i x e=>by cases e),(fun i x e=>by cases e),(fun i x e=>by cases e),List.nodup_nil,(fun i h=>by cases h),(fun i r b7 b5 h=>by cases h),(fun i x j e=>by cases e),(fun j y e=>by cases e)⟩
theorem c7y (a:Option Addr) (cap:Nat) (fs:List F2) (ms:List M3) (nm:ByteArray) (w:World) (hat:FilesAt w a fs) (ht:treeOk fs) (hp:IsPT fs ms) (hn:nameOk nm.data.toList=true) (hv:G.VarsZ w) (hsh:ShapesAt w) (hmx:MaxAt w) (hten:10<=w.heap.size):
 Calls prog 7 #[.agg #[.slice a fs.length cap],.string nm] w fun e w'=>(∃ v,e=.returned v/\∃ xs,DRow w.heap.size v xs w'/\IsDs (envOf fs ms) nm (xs.map (·.d)))/\Below w.heap.size w w':=by
 have HAT:=hidI hat
 have HT:=hidI ht
 have HP:=hidI hp
 have HV:=hidI hv
 have HSH:=hidI hsh
 have HMX:=hidI hmx
 have HNM:=hidI hn
 have HMS:Hid ((envOf fs ms).ms.length<=30):=hidI (by show (ms.map toM).length<=30;rw [List.length_map];exact isPT_30 hp)
 have hfl:fs.length<=1048576:=by have:=ht.1;omega
 have HF:=hidI (tree_le ht)
 have hns:nm.size<=20:=name_le hn
 have hB0:∀ o1,Below w.heap.size w (w.alloc o1):=fun o1=>(Below.refl _ _).alloc (Nat.le_refl _) _
 clear hat ht hp hv hsh hmx
 go_enter func7,ntmps7
 go_wp2_with fail
 refine (G.T.c19 a cap fs _ hfl HF.out (G.T.files_below HAT.out (hB0 _))).mono ?_
 rintro e w1 ⟨⟨b,rfl,hb⟩,hb1⟩
 obtain rfl:b=true:=hb.2 HT.out
 have hB1:Below w.heap.size w w1:=(hB0 _).trans (hb1.mono (by simp))
 have t1:w1.cell? ⟨w.heap.size,0,none⟩=some (.slice a fs.length cap):=(hb1.cell (p:=⟨w.heap.size,0,none⟩) (by simp)).trans (by simp [go_sem])
 clear hb hb1 hB0
 go_wp2_with fail
 refine (c20 nm w1 (by omega)).mono ?_
 rintro e w2 ⟨he,hw2⟩
 obtain rfl:=hw2
 have e':e=.returned (.bool true):=by rw [he];exact congrArg (fun b=>Ending.returned (.bool b)) hn
 subst e'
 clear he
 go_wp2_with fail
 refine (c22 a cap fs _ hfl HF.out (G.T.files_below HAT.out hB1) (HV.out.below hB1)).mono ?_
 rintro e w3 ⟨kb,mr,mw,pv,ms',rfl,hk,hm1,hm2,hrow,hpt,l1,l2,l3,hne,hb3⟩
 obtain rfl:=G.isPT_one HP.out hpt
 rw [show pt kb=.pointer (some ⟨kb,0,none⟩) from rfl]
 have HFK:Hid (Fok ⟨w2,kb,mr,mw,a,cap,fs,pv,ms⟩ (envOf fs ms)):=hidI ⟨by show 10<=w2.heap.size;have:=hB1.size;omega,shapes_base HSH.out hB1 hten,max_base HMX.out hB1 hten,G.T.files_below HAT.out hB1,HT.out,HP.out,rfl⟩
 have hs0:=shp0 (a:=a) (cap:=cap) (fs:=fs) hk hm1 hm2 hrow l1 l2 l3 hne hb3
 have HC:=hidI (c21 _ _ HFK.out HMS.out nm _ w3 hs0 (lgc0 (envOf fs ms) kb mr mw pv) rfl HNM.out)
 have HB3b:Hid (Below w2.heap.size w2 w3):=hidI hb3
 clear hs0 hk hm1 hm2 hrow hpt l1 l2 l3 hne hb3 t1
 go_wp2_with fail
 refine HC.out.mono ?_
 rintro e w4 ⟨v,rfl,xs,hdr,his,hb4⟩
 have hB4:Below w.heap.size w w4:=hB1.trans ((show Below w2.heap.size w2 w4 from hb4).mono hB1.size)
 have hle:=hB1.size
 have HE:Hid (∃ xs,DRow w.heap.size v xs w4/\IsDs (envOf fs ms) nm (xs.map (·.d))):=hidI ⟨xs,⟨owns_mono hdr.row hle,fun x hx=>owns_mono (hdr.lk x hx) hle,hdr.ne⟩,his⟩
 obtain ⟨va,vc,rfl⟩:=row_slice hdr.row
 have HB4:=hidI hB4
 clear hdr his hb4 hB4 HC HB3b
 go_wp2
 go_ret
 exact ⟨⟨_,rfl,HE.out⟩,HB4.out⟩
theorem c7n (a:Option Addr) (cap:Nat) (fs:List F2) (nm:ByteArray) (w:World) (hl:fs.length<=1048576) (hs:∀ i,(fs.getD i f2z).le 1048576) (hat:FilesAt w a fs) (hns:nm.size<=1048576) (hno:¬ treeOk fs\/nameOk nm.data.toList=false):
 Calls prog 7 #[.agg #[.slice a fs.length cap],.string nm] w fun e w'=>(∃ v,e=.returned v/\DRow w.heap.size v [] w')/\Below w.heap.size w w':=by
 have HAT:=hidI hat
 have HF:=hidI hs
 have HN:=hidI hno
 have hB0:∀ o1,Below w.heap.size w (w.alloc o1):=fun o1=>(Below.refl _ _).alloc (Nat.le_refl _) _
 clear hat hs hno
 go_enter func7,ntmps7
 go_wp2_with fail
 refine (G.T.c19 a cap fs _ hl HF.out (G.T.files_below HAT.out (hB0 _))).mono ?_
 rintro e w1 ⟨⟨b,rfl,hb⟩,hb1⟩
 have HE:Hid (DRow w.heap.size (.slice none 0 0) [] w1/\Below w.heap.size w w1):=⟨⟨World.ownsRow_nil _ _ _ _,(fun x h=>by cases h),List.Pairwise.nil⟩,(hB0 _).trans (hb1.mono (by simp))⟩
 have HBT:=hidI hb
 clear hb hb1 hB0
 cases b
 · go_wp2
   go_ret
   exact ⟨⟨_,rfl,HE.out.1⟩,HE.out.2⟩
 have hn:nameOk nm.data.toList=false:=by
  rcases HN.out with h | h
  · exact absurd (HBT.out.1 rfl) h
  exact h
 go_wp2_with fail
 refine (c20 nm w1 (by omega)).mono ?_
 rintro e w2 ⟨he,rfl⟩
 have e':e=.returned (.bool false):=by rw [he];exact congrArg (fun b=>Ending.returned (.bool b)) hn
 subst e'
 clear he
 go_wp2
 go_ret
 exact ⟨⟨_,rfl,HE.out.1⟩,HE.out.2⟩
theorem isPT_ex (fs:List F2):∃ ms,IsPT fs ms:=by
 by_cases ht:treeOk fs
 rotate_left
 · exact ⟨[],.inl ⟨ht,rfl⟩⟩
 by_cases hf:G.Free fs G.planA
 · exact ⟨[],.inr (.inl ⟨ht,hf,rfl⟩)⟩
 obtain ⟨i,hi,hn⟩:∃ i,i<fs.length/\(fs.getD i f2z).nm=G.planA:=Classical.byContradiction fun h=>hf fun i hi e=>h ⟨i,hi,e⟩
 obtain ⟨ks,ok,hp⟩:∃ ks ok,G.IsPlan (fs.getD i f2z).tx.data.toList ks ok:=by
  by_cases h:∃ js,G.planOk js=true/\js.flatMap G.makeL=(fs.getD i f2z).tx.data.toList/\(fs.getD i f2z).tx.data.toList.length<=300
  · obtain ⟨js,h1,h2,h3⟩:=h
    exact ⟨js,true,fun _=>⟨h1,h2,h3⟩,fun c=>by cases c⟩
  exact ⟨[],false,(fun c=>by cases c),fun _=>⟨rfl,fun js h1 h2=>Nat.lt_of_not_le fun h3=>h ⟨js,h1,h2,h3⟩⟩⟩
 by_cases h:ok=true/\G.FreeAll fs ks
 · exact ⟨ks,.inr (.inr ⟨ht,i,hi,hn,ks,ok,hp,.inl ⟨h.1,h.2,rfl⟩⟩)⟩
 exact ⟨[],.inr (.inr ⟨ht,i,hi,hn,ks,ok,hp,.inr ⟨h,rfl⟩⟩)⟩
def RowD (base:Nat) (ds:List Dd) (e:Ending) (w:World):Prop:=∃ v,e=.returned v/\∃ xs,DRow base v xs w/\xs.map (·.d)=ds
theorem alike (fs:List F2) (nm:ByteArray) (hl:fs.length<=1048576) (hs:∀ i,(fs.getD i f2z).le 1048576) (hns:nm.size<=1048576):∃ ds:List Dd,ds.length<=481/\(∀ d∈ds,d.ls.length<=15)/\
 (∀ (a:Option Addr) (cap:Nat) (w:World),FilesAt w a fs->Calls prog 5 #[.agg #[.slice a fs.length cap],.string nm] w fun e w'=>RowD w.heap.size ds e w'/\Below w.heap.size w w')/\
 (∀ (a:Option Addr) (cap:Nat) (w:World),FilesAt w a fs->G.VarsZ w->ShapesAt w->MaxAt w->10<=w.heap.size->Calls prog 7 #[.agg #[.slice a fs.length cap],.string nm] w fun e w'=>RowD w.heap.size ds e w'/\Below w.heap.size w w'):=by
 by_cases h:treeOk fs/\nameOk nm.data.toList=true
 · obtain ⟨ms,hp⟩:=isPT_ex fs
   have hE:=envOk h.1 hp
   obtain ⟨ds,h481,h15,hds⟩:∃ ds:List Dd,ds.length<=481/\(∀ d∈ds,d.ls.length<=15)/\∀ ds',IsDs (envOf fs ms) nm ds'->ds'=ds:=by
    by_cases hx:∃ ds,IsDs (envOf fs ms) nm ds
    · obtain ⟨ds,hx⟩:=hx
      exact ⟨ds,isDs_len hE (by show (ms.map toM).length<=30;rw [List.length_map];exact isPT_30 hp) hx,fun d hd=>(isDd_len hE (hx.ok d hd)).1,fun ds' h'=>isDs_one hE h' hx⟩
    exact ⟨[],by simp,(fun d hd=>by cases hd),fun ds' h'=>absurd ⟨ds',h'⟩ hx⟩
   exact ⟨ds,h481,h15,fun a cap w hat=>(c5y a cap fs ms nm w hat h.1 hp h.2).mono (fun e w' ⟨⟨v,h1,xs,h2,h3⟩,h4⟩=>⟨⟨v,h1,xs,h2,hds _ h3⟩,h4⟩),fun a cap w hat hv hsh hmx hten=>(c7y a cap fs ms nm w hat h.1 hp h.2 hv hsh hmx hten).mono (fun e w' ⟨⟨v,h1,xs,h2,h3⟩,h4⟩=>⟨⟨v,h1,xs,h2,hds _ h3⟩,h4⟩)⟩
 have hno:¬ treeOk fs\/nameOk nm.data.toList=false:=by
  by_cases ht:treeOk fs
  · exact .inr (by cases hn:nameOk nm.data.toList;rfl;exact absurd ⟨ht,hn⟩ h)
  exact .inl ht
 exact ⟨[],by simp,(fun d hd=>by cases hd),fun a cap w hat=>(c5n a cap fs nm w hl hs hat hns hno).mono (fun e w' ⟨⟨v,h1,h2⟩,h4⟩=>⟨⟨v,h1,[],h2,rfl⟩,h4⟩),fun a cap w hat _ _ _ _=>(c7n a cap fs nm w hl hs hat hns hno).mono (fun e w' ⟨⟨v,h1,h2⟩,h4⟩=>⟨⟨v,h1,[],h2,rfl⟩,h4⟩)⟩
theorem unf_below (h:G.T.Unf w g) (hb:Below w.heap.size w w'):G.T.Unf w' g:=⟨Nat.lt_of_lt_of_le h.1 hb.size,fun j=>(hb.frozen (p:=⟨g,j,none⟩) h.1).trans (h.2 j)⟩
theorem files_opn (h:FilesAt w (some ⟨g,0,none⟩) fs) (hu:G.T.Unf w g):M.Opn w g (fs.length*2):=by
 refine ⟨hu.1,fun j hj=>?_,hu.2⟩
 rcases h with h | ⟨b,off,h1,h2,h3⟩
 · rw [h] at hj;simp at hj
 injection h1 with h1
 injection h1 with h1 h4
 subst h1 h4
 have h5:=h3 (j / 2) (by omega)
 rcases (by omega:j=0+j / 2*2\/j=0+j / 2*2+1) with e | e
 · rw [e];exact ⟨_,h5.1⟩
 rw [e];exact ⟨_,h5.2⟩
end Go.Proofs.YthfmmimmfcnhmaaGreatDoor
namespace Go.Proofs.YthfmmimmfcnhmaaGreatDoor
open Proofs.Tryz
open Go.RowKit
open G (IsPT)
open G.T (F2 f2z treeOk FilesAt)
variable {ds:List Dd} {xs:List De} {base c:Nat} {v:Value} {w w':World} {a a':Option Addr} {es:List Bl}
def toBl (x:De):Bl:=⟨x.lv,x.lv.ownBlock.getD 0,x.d.ls.length⟩
theorem bl_get (xs:List De) (i:Nat):(xs.map toBl).getD i blz=toBl (xs.getD i dez):=by
 rw [show blz=toBl dez from rfl,List.getD,List.getD,List.getElem?_map]
 cases xs[i]? <;> rfl
theorem bl15 (h15:∀ d∈ds,d.ls.length<=15) (hm:xs.map (·.d)=ds):∀ e∈xs.map toBl,e.n<=15:=fun e he=>by
 obtain ⟨x,hx,rfl⟩:=List.mem_map.1 he
 exact h15 x.d (by rw [<- hm];exact List.mem_map_of_mem hx)
def InD (v:Value) (xs:List De) (k:Nat):Prop:=v.ownBlock=some k\/∃ x∈xs,x.lv.ownBlock=some k
theorem DRow.but {b:Nat} (h:DRow base v xs w) (hb:But b w w') (hne:¬ InD v xs b):DRow base v xs w':=
 h.keep (fun k e=>hb.block k (h.row.lt k e).2 (fun c=>hne (by rw [<- c];exact .inl e))) (fun x hx k e=>hb.block k ((h.lk x hx).lt k e).2 (fun c=>hne (by rw [<- c];exact .inr ⟨x,hx,e⟩)))
theorem DRow.ge {k:Nat} (h:DRow base v xs w) (e:InD v xs k):base<=k:=e.elim (fun e=>(h.row.lt k e).1) (fun ⟨x,hx,e⟩=>((h.lk x hx).lt k e).1)
theorem DRow.lks (h:DRow base v xs w):∀ x∈xs,∃ la lc,x.lv=.slice la x.d.ls.length lc/\M.LksAt w la x.d.ls:=fun x hx=>row_lks (h.lk x hx)
theorem eqD {ys:List De} (cap cap':Nat) {base':Nat} (h481:ds.length<=481) (h15:∀ d∈ds,d.ls.length<=15) (hx:xs.map (·.d)=ds) (hy:ys.map (·.d)=ds) (h1:DRow base (.slice a xs.length cap) xs w) (h2:DRow base' (.slice a' ys.length cap') ys w):Calls prog 8 #[.slice a xs.length cap,.slice a' ys.length cap'] w fun e w'=>e=.returned (.bool true)/\Below w.heap.size w w':=by
 obtain ⟨x1,y1,e1,k1⟩:=row_des h1.row
 obtain ⟨x2,y2,e2,k2⟩:=row_des h2.row
 injection e1 with e1 _ _
 injection e2 with e2 _ _
 subst e1 e2
 exact c8 _ _ cap cap' xs ys w (by have:=congrArg List.length hx;rw [List.length_map] at this;omega) (hx.trans hy.symm) (fun x hxx=>h15 x.d (by rw [<- hx];exact List.mem_map_of_mem hxx)) k1 k2 h1.lks h2.lks
structure MrkD (v:Value) (es:List Bl) (w:World):Prop where
 ex:∃ base g a c,v=.slice a es.length c/\(es=[]\/a=some ⟨g,0,none⟩)/\StB base g es/\(es≠[]->g<w.heap.size)/\∀ i,i<es.length->Mkd1 (kD 1 es i) g i (es.getD i blz) w
theorem MrkD.below (h:MrkD v es w) (hb:Below w.heap.size w w'):MrkD v es w':=by
 obtain ⟨base,g,a,c,h1,h2,h3,h4,h5⟩:=h.ex
 exact ⟨base,g,a,c,h1,h2,h3,fun hn=>Nat.lt_of_lt_of_le (h4 hn) hb.size,fun i hi=>(h5 i hi).below (h4 (ne_of hi)) hb⟩
theorem mk12 (h:MrkD v es w) (hl:es.length<=481):Calls prog 12 #[v,.int .i64 1] w fun e w'=>e=.returned (.int .i64 (kD 1 es es.length))/\Below w.heap.size w w':=by
 obtain ⟨base,g,a,c,rfl,h2,h3,h4,h5⟩:=h.ex
 exact c12 base g c a es 1 w h2 h3 hl (by decide) (by decide) h4 h5
theorem DRow.stb {g cap:Nat} (h:DRow base (.slice (some ⟨g,0,none⟩) xs.length cap) xs w) (hn:∀ e∈xs.map toBl,e.n<=15):StB base g (xs.map toBl)/\∀ K,StD base g (xs.map toBl) K 0 0 w w:=by
 obtain ⟨hbg,cur,hcu⟩:=own_block h.row (k:=g) rfl
 have mem:∀ i,i<(xs.map toBl).length->xs.getD i dez∈xs:=fun i hi=>by
  rw [List.length_map] at hi
  rw [List.getD,List.getElem?_eq_getElem hi];exact List.getElem_mem hi
 have own:∀ i,i<(xs.map toBl).length->(toBl (xs.getD i dez)).n≠0->(xs.getD i dez).lv.ownBlock=some (toBl (xs.getD i dez)).b:=fun i hi h0=>by
  rcases (h.lk _ (mem i hi)).2 with ⟨_,h1⟩ | ⟨g',c',cu,h1,_⟩
  · exact absurd h1 h0
  show _=some ((xs.getD i dez).lv.ownBlock.getD 0)
  rw [h1];rfl
 refine ⟨⟨fun _=>hbg,fun i hi=>?_,fun i hi h0=>?_,fun i j hi hj hne h0 h1=>?_,hn⟩,fun K=>⟨fun _=>⟨blk_lt hcu,fun j hj=>?_,fun j=>h.row.frozenAt j⟩,fun i hi=>?_,fun i _ hi=>?_,fun i hi=>absurd hi (Nat.not_lt_zero _),Below.refl _ _⟩⟩
 · rw [bl_get]
   rcases (h.lk _ (mem i hi)).2 with ⟨h1,h2⟩ | ⟨g',c',cu,h1,_⟩
   · exact ⟨none,0,by show (xs.getD i dez).lv=.slice none (xs.getD i dez).d.ls.length 0;rw [h1,h2],.inl h2⟩
   refine ⟨some ⟨g',0,none⟩,c',h1,.inr ?_⟩
   show _=some (⟨(xs.getD i dez).lv.ownBlock.getD 0,0,none⟩:Addr)
   rw [h1];rfl
 · rw [bl_get] at h0 ⊢
   obtain ⟨hb,cu,hc⟩:=own_block (h.lk _ (mem i hi)) (own i hi h0)
   exact ⟨blk_ne hc hcu (by decide),hb⟩
 · rw [bl_get] at h0 h1 ⊢
   rw [bl_get]
   have p:=List.pairwise_iff_getElem.1 h.ne
   have q:∀ i j,i<(xs.map toBl).length->j<(xs.map toBl).length->i<j->∀ k,(xs.getD i dez).lv.ownBlock=some k->(xs.getD j dez).lv.ownBlock≠some k:=fun i j hi hj hij=>by
    rw [List.length_map] at hi hj
    have:=p i j hi hj hij
    simpa [List.getD,List.getElem?_eq_getElem hi,List.getElem?_eq_getElem hj] using this
   intro e
   rcases Nat.lt_or_gt_of_ne hne with hij | hij
   · exact q i j hi hj hij _ (own i hi h0) (by rw [e];exact own j hj h1)
   exact q j i hj hi hij _ (own j hj h1) (by rw [<- e];exact own i hi h0)
 · rw [List.length_map] at hj
   exact ⟨_,(h.row.cellAt j hj).trans (List.getElem?_eq_getElem (by rw [deC_len];exact hj))⟩
 · rw [bl_get]
   rw [List.length_map] at hi
   rw [h.row.cellAt _ (by omega),deC_get xs i 5 hi (by omega)]
   rfl
 rw [bl_get]
 by_cases h0:(toBl (xs.getD i dez)).n=0
 · exact .inl h0
 have ho:=own i hi h0
 have hr:=h.lk _ (mem i hi)
 rcases hr.2 with ⟨_,h1⟩ | ⟨g',c',cu,h1,_⟩
 · exact absurd h1 h0
 have hb:(toBl (xs.getD i dez)).b=g':=by
  show (xs.getD i dez).lv.ownBlock.getD 0=g'
  rw [h1];rfl
 rw [h1] at hr
 rw [hb]
 exact .inr ⟨(hr.lt g' rfl).2,fun j hj=>⟨_,(hr.cellAt j hj).trans (List.getElem?_eq_getElem (by rw [lkCells_len];exact hj))⟩,fun j=>hr.frozenAt j⟩
theorem mk11 (h481:ds.length<=481) (h15:∀ d∈ds,d.ls.length<=15) (hm:xs.map (·.d)=ds) (h:DRow base (.slice a xs.length c) xs w) (hb:base<=w.heap.size):Calls prog 11 #[.slice a xs.length c,.int .i64 1] w fun e w'=>e=.returned (.int .i64 (kD 1 (xs.map toBl) (xs.map toBl).length))/\MrkD (.slice a xs.length c) (xs.map toBl) w'/\Below base w w':=by
 have hl:(xs.map toBl).length<=481:=by have:=congrArg List.length hm;rw [List.length_map] at this ⊢;omega
 obtain ⟨g,ha,hs,hd⟩:∃ g,(xs.map toBl=[]\/a=some ⟨g,0,none⟩)/\StB base g (xs.map toBl)/\StD base g (xs.map toBl) 1 0 0 w w:=by
  rcases h.row.2 with ⟨h1,h0⟩ | ⟨g,cap,cur,h1,_⟩
  · obtain rfl:=List.length_eq_zero_iff.1 h0
    exact ⟨0,.inl rfl,⟨fun h=>absurd rfl h,fun i hi=>absurd hi (Nat.not_lt_zero _),fun i hi=>absurd hi (Nat.not_lt_zero _),fun i j hi=>absurd hi (Nat.not_lt_zero _),fun e he=>by cases he⟩,⟨fun h=>absurd rfl h,fun i hi=>absurd hi (Nat.not_lt_zero _),fun i _ hi=>absurd hi (Nat.not_lt_zero _),fun i hi=>absurd hi (Nat.not_lt_zero _),Below.refl _ _⟩⟩
  injection h1 with h1 _ h2
  subst h1 h2
  obtain ⟨q1,q2⟩:=h.stb (bl15 h15 hm)
  exact ⟨g,.inr rfl,q1,q2 1⟩
 have h11:=c11 base g c a (xs.map toBl) 1 w ha hs hl (by decide) (by decide) hb hd
 rw [show (xs.map toBl).length=xs.length from List.length_map ..] at h11 ⊢
 refine h11.mono ?_
 rintro e w' ⟨rfl,h2⟩
 exact ⟨rfl,⟨base,g,a,c,by rw [List.length_map],ha,hs,fun hn=>(h2.opn hn).1,fun i hi=>h2.md i (by rw [List.length_map] at hi;exact hi)⟩,h2.bl⟩
theorem c3 (a:Option Addr) (cap:Nat) (fs:List F2) (nm:ByteArray) (w:World) (hs:∀ i,(fs.getD i f2z).le 9223372036854775807) (hl:fs.length<=9223372036854775807) (hat:FilesAt w a fs) (hv:G.VarsZ w) (hsh:ShapesAt w) (hmx:MaxAt w) (hten:10<=w.heap.size):
 Calls prog 3 #[.agg #[.slice a fs.length cap],.string nm] w fun e w'=>e=.returned (.bool true)/\Below w.heap.size w w':=by
 have HV:=hidI hv
 have HSH:=hidI hsh
 have HMX:=hidI hmx
 have HAT:=hidI hat
 have hB0:Below w.heap.size w (w.alloc (.cells #[.slice a fs.length cap] 24)):=(Below.refl _ _).alloc (Nat.le_refl _) _
 have h4:=G.T.c4 a cap fs _ hs hl (G.T.files_below hat hB0)
 clear hv hsh hmx hat
 by_cases hnl:nm.size<=1048576
 rotate_left
 · clear h4
   go_enter func3,ntmps3
   go_wp2
   go_ret
   exact ⟨rfl,hB0⟩
 go_enter func3,ntmps3
 go_wp2_with fail
 refine h4.mono ?_
 rintro e w1 ⟨⟨r,rfl,hr⟩,hb1⟩
 have hx1:Below (w.heap.size+1) (w.alloc (.cells #[.slice a fs.length cap] 24)) w1:=by have h:=hb1;simp at h;exact h
 have hB1:Below w.heap.size w w1:=hB0.trans (hx1.mono (by omega))
 have hz1:w.heap.size+1<=w1.heap.size:=by have:=hx1.size;simpa using this
 have t1:w1.cell? ⟨w.heap.size,0,none⟩=some (.slice a fs.length cap):=(hx1.cell (p:=⟨w.heap.size,0,none⟩) (by simp)).trans (by simp [go_sem])
 clear hb1 h4 hx1
 by_cases h0:0<=r
 rotate_left
 · go_wp2
   go_ret
   exact ⟨rfl,hB1⟩
 obtain ⟨hl',hs',hr'⟩:=hr h0
 obtain ⟨ds,h481,h15,hS5,hS7⟩:=alike fs nm hl' hs' hnl
 have HDS:=hidI h481
 have H15:=hidI h15
 clear h15
 have HS5:=hidI hS5
 have HS7:=hidI hS7
 clear hr hs hl hs' hS5 hS7
 have h6:=G.T.c6 a cap fs w1 hl' (G.T.files_below HAT.out hB1)
 go_wp2_with fail
 refine h6.mono ?_
 rintro e wa ⟨⟨ga,_,rfl,hatA,_⟩,hba⟩
 have hza:w1.heap.size<=wa.heap.size:=hba.size
 have hBa:Below w.heap.size w wa:=hB1.trans (hba.mono hB1.size)
 have hqa:w.heap.size<w1.heap.size:=by omega
 have ta:=(hba.cell (p:=⟨w.heap.size,0,none⟩) hqa).trans t1
 have h5:=HS5.out (some ⟨ga,0,none⟩) fs.length wa hatA
 clear h6 hba
 go_wp2_with fail
 refine h5.mono ?_
 rintro e wb ⟨⟨v5,rfl,xs,hr5,hm5⟩,hbb⟩
 obtain ⟨a5,q5,hv5⟩:=row_slice hr5.row
 have HX:=hidI hm5
 subst hv5
 have K5:Hid (∀ k,InD (.slice a5 xs.length q5) xs k->k<wb.heap.size):=fun k e=>e.elim (fun e=>(hr5.row.lt k e).2) (fun ⟨x,hx,e⟩=>((hr5.lk x hx).lt k e).2)
 have hBb:Below w.heap.size w wb:=hBa.trans (hbb.mono hBa.size)
 have hqb:w.heap.size<wa.heap.size:=by omega
 have tb:=(hbb.cell (p:=⟨w.heap.size,0,none⟩) hqb).trans ta
 have hzb:wa.heap.size<=wb.heap.size:=hbb.size
 have R5:=hidI hr5
 clear h5 hbb ta t1 hatA hr5 hm5
 have h6:=G.T.c6 a cap fs wb hl' (G.T.files_below HAT.out hBb)
 go_wp2_with fail
 refine h6.mono ?_
 rintro e wc ⟨⟨gx,hgx,rfl,hatC,huC⟩,hbc⟩
 have hzc:wb.heap.size<=wc.heap.size:=hbc.size
 have hgc:gx<wc.heap.size:=huC.1
 have hBc:Below w.heap.size w wc:=hBb.trans (hbc.mono hBb.size)
 have hqd:w.heap.size<wb.heap.size:=by omega
 have tc:=(hbc.cell (p:=⟨w.heap.size,0,none⟩) hqd).trans tb
 have R5c:=hidI (R5.out.below hbc)
 clear h6 hbc tb R5
 go_upto_region 9 with fail
 obtain ⟨wc1,hwc1⟩:∃ u:World,u=wc.alloc (.cells #[.slice (some ⟨gx,0,none⟩) fs.length fs.length] 30):=⟨_,rfl⟩
 rw [<- hwc1]
 have hbc1:Below wc.heap.size wc wc1:=by rw [hwc1];exact (Below.refl _ _).alloc (Nat.le_refl _) _
 have C7:Hid (Cl wc1 wc.heap.size 30 [.slice (some ⟨gx,0,none⟩) fs.length fs.length]):=by show Cl _ _ _ _;rw [hwc1];exact cl_new wc _ 30
 have hBc1:Below w.heap.size w wc1:=hBc.trans (hbc1.mono hBc.size)
 have hqe:w.heap.size<wc.heap.size:=by omega
 have tc1:=(hbc1.cell (p:=⟨w.heap.size,0,none⟩) hqe).trans tc
 have x1:wc1.cell? ⟨wc.heap.size,0,none⟩=some (.slice (some ⟨gx,0,none⟩) fs.length fs.length):=C7.out.cell 0
 have R5d:=hidI (R5c.out.below hbc1)
 have HATC:=hidI (G.T.files_below hatC hbc1)
 have HUC:=hidI (unf_below huC hbc1)
 have hzc1:wc.heap.size<wc1.heap.size:=C7.out.lt
 clear hwc1 hbc1 tc hatC huC R5c C7
 have h7:=HS7.out (some ⟨gx,0,none⟩) fs.length wc1 HATC.out (HV.out.below hBc1) (shapes_base HSH.out hBc1 hten) (max_base HMX.out hBc1 hten) (by omega)
 go_wp2_with fail
 refine h7.mono ?_
 rintro e wd ⟨⟨v7,rfl,ys,hr7,hm7⟩,hbd⟩
 obtain ⟨a7,q7,hv7⟩:=row_slice hr7.row
 have HY:=hidI hm7
 subst hv7
 have hBd:Below w.heap.size w wd:=hBc1.trans (hbd.mono hBc1.size)
 have hqf:w.heap.size<wc1.heap.size:=by omega
 have td:=(hbd.cell (p:=⟨w.heap.size,0,none⟩) hqf).trans tc1
 have xd:=(hbd.cell (p:=⟨wc.heap.size,0,none⟩) hzc1).trans x1
 have R5e:=hidI (R5d.out.below hbd)
 have R7:=hidI hr7
 have HATD:=hidI (G.T.files_below HATC.out hbd)
 have HUD:=hidI (unf_below HUC.out hbd)
 have hzd:wc1.heap.size<=wd.heap.size:=hbd.size
 clear h7 hbd tc1 x1 R5d HATC HUC hr7 hm7
 have EQ:Hid (∀ (u:World) (aa:Option Addr) (qq bb:Nat) (zs:List De),zs.map (·.d)=ds->DRow bb (.slice aa zs.length qq) zs u->DRow wa.heap.size (.slice a5 xs.length q5) xs u->Calls prog 8 #[.slice aa zs.length qq,.slice a5 xs.length q5] u fun e w'=>e=.returned (.bool true)/\Below u.heap.size u w'):=fun u aa qq bb zs hz h1 h2=>eqD qq q5 HDS.out H15.out hz HX.out h1 h2
 have h8:=EQ.out wd a7 q7 _ ys HY.out R7.out R5e.out
 go_wp2_with fail
 refine h8.mono ?_
 rintro e wf ⟨rfl,hbf⟩
 have hBe:Below w.heap.size w wf:=hBd.trans (hbf.mono hBd.size)
 have hqi:w.heap.size<wd.heap.size:=by omega
 have hqj:wc.heap.size<wd.heap.size:=by omega
 have te:=(hbf.cell (p:=⟨w.heap.size,0,none⟩) hqi).trans td
 have xe:=(hbf.cell (p:=⟨wc.heap.size,0,none⟩) hqj).trans xd
 have HATX:=hidI (G.T.files_below HATD.out hbf)
 have HUX:=hidI (unf_below HUD.out hbf)
 have R5f:=hidI (R5e.out.below hbf)
 have R7f:=hidI (R7.out.below hbf)
 have hzf:wd.heap.size<=wf.heap.size:=hbf.size
 have hq0:w.heap.size<wf.heap.size:=by omega
 have hq1:wc.heap.size<wf.heap.size:=by omega
 clear h8 hbf td xd HATD HUD R5e R7
 go_upto_region 12 with fail
 refine wp_region_held_drew (S:=fun u=>u.cell? ⟨w.heap.size,0,none⟩=some (.slice a fs.length cap)/\u.cell? ⟨wc.heap.size,0,none⟩=some (.slice (some ⟨gx,0,none⟩) fs.length fs.length)) (by kernel_rfl) ?_ (fun hH=>?_)
 · exact ⟨te,xe⟩
 obtain ⟨y0,hy0⟩:∃ x:World,x=wf.drew:=⟨_,rfl⟩
 rw [<- hy0] at hH ⊢
 have Ly:Below wf.heap.size wf y0:=by rw [hy0];exact (Below.refl _ wf).drew
 clear hy0
 refine tq 0 hH ?_ (v:=?_) (hv:=?e)
 case e=>intro wq hSw;(try dsimp only at hSw);obtain ⟨s1,s2⟩:=hSw;go_simp;try with_reducible rfl
 refine tq 1 hH ?_ (v:=?_) (hv:=?e)
 case e=>intro wq hSw;(try dsimp only at hSw);obtain ⟨s1,s2⟩:=hSw;go_simp;try with_reducible rfl
 try simp only [qq]
 refine rq 2 (fun K hK=>?_)
 go_simp
 refine (G.T.c6 a cap fs y0 hl' (G.T.files_below HAT.out (hBe.trans (Ly.mono hBe.size)))).mono ?_
 rintro e y1 ⟨⟨g3,_,rfl,hat3,_⟩,hb1⟩
 have L1:Below wf.heap.size wf y1:=Ly.trans (hb1.mono Ly.size)
 go_simp
 clear hH
 refine hK.out _ _ ?_ (fun hH=>?_)
 · exact ⟨(L1.cell (p:=⟨w.heap.size,0,none⟩) hq0).trans te,(L1.cell (p:=⟨wc.heap.size,0,none⟩) hq1).trans xe⟩
 clear hK K
 try simp only [qq]
 refine rq 3 (fun K hK=>?_)
 go_simp
 refine (G.T.c9 (some ⟨gx,0,none⟩) (some ⟨g3,0,none⟩) fs.length fs.length fs y1 hl' (G.T.files_below HATX.out L1) hat3).mono ?_
 rintro e y2 ⟨rfl,hb2⟩
 have L2:Below wf.heap.size wf y2:=L1.trans (hb2.mono L1.size)
 go_simp
 clear hH
 refine hK.out _ _ ?_ (fun hH=>?_)
 · exact ⟨(L2.cell (p:=⟨w.heap.size,0,none⟩) hq0).trans te,(L2.cell (p:=⟨wc.heap.size,0,none⟩) hq1).trans xe⟩
 clear hK K
 refine tq 4 hH ?_
 try simp only [qq]
 refine wpAnyH_done (by kernel_rfl) ?_ _
 have hBy:Below w.heap.size w y2:=hBe.trans (L2.mono hBe.size)
 have ty:=(L2.cell (p:=⟨w.heap.size,0,none⟩) hq0).trans te
 have xy:=(L2.cell (p:=⟨wc.heap.size,0,none⟩) hq1).trans xe
 have hzy:wf.heap.size<=y2.heap.size:=L2.size
 have R5y:=hidI (R5f.out.below L2)
 have R7y:=hidI (R7f.out.below L2)
 have h10:=M.c10 1 (some ⟨gx,0,none⟩) gx fs.length fs.length y2 (by decide) (by decide) (.inr rfl) hl' (files_opn (G.T.files_below HATX.out L2) (unf_below HUX.out L2))
 clear hH hb1 hb2 hat3 L1 L2 Ly te xe HATX HUX R5f R7f
 go_wp2_with fail
 refine h10.mono ?_
 rintro e wg ⟨rfl,hbg⟩
 have hgw:w.heap.size<gx:=by omega
 have tg:=(hbg.cell (p:=⟨w.heap.size,0,none⟩) (by show w.heap.size<_;omega) (by show w.heap.size≠gx;omega)).trans ty
 have hBg:Below w.heap.size w wg:=hBy.trans (hbg.below (by omega) hBy.size)
 have R5g:=hidI (R5y.out.but hbg (fun e=>by have:=K5.out _ e;omega))
 have R7g:=hidI (R7y.out.but hbg (fun e=>by have:=R7y.out.ge e;omega))
 have hzg:y2.heap.size<=wg.heap.size:=hbg.size
 have hk0:¬ (1+2*(fs.length:Int)<0):=by omega
 generalize 1+2*(fs.length:Int)=kx at*
 clear h10 hbg ty xy R5y R7y
 have h8:=EQ.out wg a7 q7 _ ys HY.out R7g.out R5g.out
 go_wp2_with fail
 refine h8.mono ?_
 rintro e wh ⟨rfl,hbh⟩
 have hBh:Below w.heap.size w wh:=hBg.trans (hbh.mono hBg.size)
 have hqk:w.heap.size<wg.heap.size:=by omega
 have th:=(hbh.cell (p:=⟨w.heap.size,0,none⟩) hqk).trans tg
 have R5h:=hidI (R5g.out.below hbh)
 have R7h:=hidI (R7g.out.below hbh)
 have hzh:wg.heap.size<=wh.heap.size:=hbh.size
 clear h8 hbh tg R5g R7g
 have h11:=mk11 HDS.out H15.out HY.out R7h.out (by omega)
 have hm0:¬ (kD 1 (ys.map toBl) (ys.map toBl).length<0):=by have:=(kD_le 1 (es:=ys.map toBl) (bl15 H15.out HY.out) _ (Nat.le_refl _)).1;omega
 have HM12:Hid (∀ (u:World),MrkD (.slice a7 ys.length q7) (ys.map toBl) u->Calls prog 12 #[.slice a7 ys.length q7,.int .i64 1] u fun e w'=>e=.returned (.int .i64 (kD 1 (ys.map toBl) (ys.map toBl).length))/\Below u.heap.size u w'):=fun u h=>mk12 h (by rw [List.length_map];have:=congrArg List.length HY.out;rw [List.length_map] at this;have:=HDS.out;omega)
 generalize kD 1 (ys.map toBl) (ys.map toBl).length=mx at*
 generalize ys.map toBl=es at*
 go_wp2_with fail
 refine h11.mono ?_
 rintro e wi ⟨rfl,hmi,hbi⟩
 have hzi:wh.heap.size<=wi.heap.size:=hbi.size
 have hBi:Below w.heap.size w wi:=hBh.trans (hbi.mono (by omega))
 have ti:=(hbi.cell (p:=⟨w.heap.size,0,none⟩) hqf).trans th
 have R5i:=hidI (R5h.out.keep (fun k e=>hbi.block k (by have:=K5.out _ (.inl e);omega)) (fun x hx k e=>hbi.block k (by have:=K5.out _ (.inr ⟨x,hx,e⟩);omega)))
 have MI:=hidI hmi
 have h12:=HM12.out wi hmi
 clear h11 hbi hmi th R5h R7h
 go_wp2_with fail
 refine h12.mono ?_
 rintro e wj ⟨rfl,hbj⟩
 have hzj:wi.heap.size<=wj.heap.size:=hbj.size
 have hBj:Below w.heap.size w wj:=hBi.trans (hbj.mono hBi.size)
 have hql:w.heap.size<wi.heap.size:=by omega
 have tj:=(hbj.cell (p:=⟨w.heap.size,0,none⟩) hql).trans ti
 have R5j:=hidI (R5i.out.below hbj)
 have MJ:=hidI (MI.out.below hbj)
 clear h12 hbj ti R5i MI
 have h6:=G.T.c6 a cap fs wj hl' (G.T.files_below HAT.out hBj)
 go_wp2_with fail
 refine h6.mono ?_
 rintro e wk ⟨⟨gk,_,rfl,hatK,_⟩,hbk⟩
 have hzk:wj.heap.size<=wk.heap.size:=hbk.size
 have hBk:Below w.heap.size w wk:=hBj.trans (hbk.mono hBj.size)
 have R5k:=hidI (R5j.out.below hbk)
 have MK:=hidI (MJ.out.below hbk)
 have h7:=HS7.out (some ⟨gk,0,none⟩) fs.length wk hatK (HV.out.below hBk) (shapes_base HSH.out hBk hten) (max_base HMX.out hBk hten) (by omega)
 clear h6 hbk tj R5j MJ hatK
 go_wp2_with fail
 refine h7.mono ?_
 rintro e wl ⟨⟨v8,rfl,zs,hr8,hm8⟩,hbl⟩
 obtain ⟨a8,q8,hv8⟩:=row_slice hr8.row
 subst hv8
 have hBl:Below w.heap.size w wl:=hBk.trans (hbl.mono hBk.size)
 have h8:=EQ.out wl a8 q8 _ zs hm8 hr8 (R5k.out.below hbl)
 have ML:=hidI (MK.out.below hbl)
 clear h7 hbl R5k MK hr8 hm8
 go_wp2_with fail
 refine h8.mono ?_
 rintro e wm ⟨rfl,hbm⟩
 have hBm:Below w.heap.size w wm:=hBl.trans (hbm.mono hBl.size)
 have h12:=HM12.out wm (ML.out.below hbm)
 clear h8 hbm ML
 go_wp2_with fail
 refine h12.mono ?_
 rintro e wn ⟨rfl,hbn⟩
 have hBn:Below w.heap.size w wn:=hBm.trans (hbn.mono hBm.size)
 clear h12 hbn
 go_wp2
 go_ret
 exact ⟨rfl,hBn⟩
